import Derived.Test.YthlbckmkogkbkaaGreatXAQG
import Derived.Test.YthlbckmkogkbkaaGreatXAAT
import Derived.Test.YthlbckmkogkbkaaGreatXACT
namespace Go.Proofs.YthlbckmkogkbkaaGreat
open Go.RowKit
set_option maxRecDepth 100000
set_option maxHeartbeats 8000000
section
attribute [local go_sem ↓] uz1
attribute [local go_sem] uz2
section
attribute [local go_sem] uz8
attribute [local go_sem ↓] uz17 Go.wp_at_zero Go.wp_at_succ
attribute [local go_sem] uz18
theorem tiny_dl (k:Nat) (h1:13≤k) (h2:k≤15):dl (oN k)=1:=by
 obtain rfl | rfl | rfl:k=13∨k=14∨k=15:=by omega
 all_goals decide +kernel
theorem mnN_pos (k:Nat) (h1:13≤k) (h2:k≤15):0<mnN 4 (bl (oN k)):=by
 obtain rfl | rfl | rfl:k=13∨k=14∨k=15:=by omega
 all_goals decide +kernel
theorem wrap_u32 (x:Int) (h0:0≤x) (h1:x<4294967296):IntKind.u32.wrap x=x:=by
 simp only [IntKind.wrap,IntKind.signed,IntKind.bits]
 simp
 omega
theorem dl_small {n:Nat} (h0:0<n) (h1:n<4294967296):dl n=1:=by
 have a:=(dl_le n 1).2 (by rw [show pq 1=4294967296 by decide +kernel]; exact h1)
 have b:¬ dl n≤0:=fun h=>by have:=(dl_le n 0).1 h; rw [show pq 0=1 by decide +kernel] at this; omega
 omega
theorem bslU_is (n:Nat) (p:Array (Nat×Value)):Instr.buildSlice 28 n p=bslS 28 n p:=rfl
theorem buildU' (x:Nat) (w:World):(bslS 28 1 #[(0,.int .u32 (x:Int))]).run Tryz.prog w=.ok (.slice (some ⟨w.heap.size,0,none⟩) 1 1) (w.alloc (.cells #[.int .u32 (x:Int)] 63)):=by
 kernel_rfl
theorem buildU (x:Nat) (hx:x<4294967296) (w:World):(bslS 28 1 #[(0,.int .u32 (x:Int))]).run Tryz.prog w=.ok (.slice (some ⟨w.heap.size,0,none⟩) 1 1) (w.alloc (.cells (nd 1 x) 63)):=by
 rw [buildU' x w,nd_one x hx]
attribute [local go_sem ↓] bslU_is
theorem lqtiny_any (id:Int) (n1:Nat) (bn1:n1<18446744073709551616) (w:World):Cg 8 #[.int .i64 id,.int .u64 (n1:Int)] w (.bool true):=by
 obtain ⟨u,hu,hu2,hk⟩:=idxT_conv id
 have hbd:=idxT_bd id
 obtain ⟨k,hkk⟩:=exl (idxT id)
 rw [hkk] at hk hbd
 obtain ⟨h13,h2⟩:=hbd
 have h1:1≤k:=by omega
 have u0:(0:Int)≤(u:Int):=by omega
 have hk2:(13:Int)+(u:Int)%3=(k:Int):=by omega
 have hk3:IntKind.i64.wrap ((u:Int)%3)=(u:Int)%3:=by rw [IntKind.wrap_i64]; omega
 have hk4:IntKind.u64.wrap ((u:Int)%3)=(u:Int)%3:=by rw [IntKind.wrap_u64]; omega
 have hk5:(u:Int).tmod 3=(u:Int)%3:=by rw [Int.tmod_eq_emod_of_nonneg (by omega)]
 have k0:(1:Int)≤(k:Int):=by omega
 have k1:(k:Int)≤15:=by omega
 have hu3:id%18446744073709551616=(u:Int):=by rw [← hu,IntKind.wrap_u64]
 clear hkk hk
 have HGR:Hid (∀ w,Calls Tryz.prog 9 #[.int .i64 (k:Int)] w (GetQ k w)):=fun w=>getq_yes k h1 h2 w
 have HAW:Hid (∀ w,Cg 18 #[] w (.bool true)):=fun w=>awake18_any w
 go_enter Tryz.func8,Tryz.ntmps8
 go_upto_region 6 with (first
  | (go_at_call 18; refine (HAW.out _).mono ?_; rintro e WA ⟨rfl,GA⟩)
  | (go_at_call 9; refine (HGR.out _).mono ?_; rintro e WB ⟨qc,rfl,HQ,GB⟩))
 obtain ⟨e9,he9⟩:=exl (WB.heap.size)
 simp only [he9]
 refine gen_w (fun v=>Gr w v∧Vr v e9 (crA (k:Int) (nN k) qc)∧(∀ j,Sl v (qc j).1 (nN k j))) ?_ ?_
 ·subst he9
  have g1:Gr WB (WB.alloc (.cells (crA (k:Int) (nN k) qc) 31)):=(Gr.refl _).alloc _
  exact ⟨(GA.trans GB).trans g1,Vr.new _ _ _,fun j=>(HQ j).gr g1⟩
 clear he9 GA GB HQ HAW HGR hu hu2 hk2 hk3 hk4 hk5 hu3 u0 k0 k1
 rintro v0 ⟨G,c9,HQ⟩
 obtain ⟨m,hm⟩:=exl (oN k)
 have hb:=tinyP k h13 h2
 rw [hm] at hb
 have hdl1:dl (oN k)=1:=tiny_dl k h13 h2
 obtain ⟨bp,hq3, -,hb3⟩:=HQ 3 0 (by show 0<dl (oN k); rw [hdl1]; decide)
 have hbc:v0.cell? ⟨bp,0,none⟩=some (.int .u32 (m:Int)):=by
  rw [cell_blk,hb3]
  show some (Value.int .u32 ((dg (oN k) 0:Nat):Int))=_
  rw [hm,show dg m 0=m by unfold dg; rw [pq_zero,Nat.div_one]; exact Nat.mod_eq_of_lt (by omega)]
 have k4:v0.cell? ⟨e9,4,none⟩=some (.slice (some ⟨bp,0,none⟩) 1 (qc 3).2):=by
  rw [c9.cell,← hq3,← hdl1]; rfl
 have m1:(200:Int)≤(m:Int):=by omega
 have m2:(m:Int)≤255:=by omega
 go_upto_region 7 with fail
 clear k4 hbc hb3 hq3
 obtain ⟨r1,hr1⟩:=exl (n1%200)
 have q1:(n1:Int).tmod 200=(r1:Int):=by rw [Int.tmod_eq_emod_of_nonneg (by omega)]; omega
 have q2:IntKind.u32.wrap (r1:Int)=(r1:Int):=wrap_u32 _ (by omega) (by omega)
 obtain ⟨n2,hn2⟩:=exl (1+r1)
 have q3:IntKind.u32.wrap (1+(r1:Int))=(n2:Int):=(wrap_u32 _ (by omega) (by omega)).trans (by omega)
 have hdn2:dl n2=1:=dl_small (by omega) (by omega)
 have hd:dl n2≤400:=by omega
 have hlt2:n2<pq 1:=by rw [show pq 1=4294967296 by decide +kernel]; omega
 have hbs:=fun w=>buildU n2 (by omega) w
 have hwb:w.heap.size≤v0.heap.size:=G.below.size
 obtain ⟨P,hP⟩:=exl (mlQ k n2 (gQ k))
 have oP:OnQ k P:=hP ▸ mlQ_on h1 h2 _ (gQ_on h1 h2)
 have hmP:mlQ k m P=inf:=hm ▸ ml_N h1 h2 hP
 obtain ⟨n,hnn⟩:=exl ((evN k).length)
 have hn:((evN k).length:Int)=(n:Int):=by rw [hnn]
 have n0:(0:Int)≤(n:Int):=by omega
 have n1p:0<n:=by
  rw [← hnn]
  unfold evN
  rw [rpx_length]
  exact Nat.mul_pos (by decide) (mnN_pos k h13 h2)
 have p9:e9+1≤v0.heap.size:=c9.p
 refine wp_v true [.c (.agg (crA (k:Int) (nN k) qc)),.c (.int .u64 (n1:Int)),.c (.int .u64 (r1:Int)),.c (.int .u32 (r1:Int)),.c (.int .u32 (n2:Int)),.n (n2),.c (.agg (crA (k:Int) (nN k) qc)),.pt (xN k) (yN k) false,.pt (P.1) (P.2.1) P.2.2,.a,.u] [0,2,3,4,5,6,7,8] [⟨9,10,41,ptA none 0 0 none 0 0 false,fun yy=>ptA (yy 8 0).1 (P.1) (yy 8 0).2 (yy 8 1).1 (P.2.1) (yy 8 1).2 P.2.2⟩] ?hs1 ?hv1 ?hf1
 case hs1=>
  exact .cons (.g 31 0 c9 rfl)<|.cons (.s (.binOp .rem 22 (.const (.int .u64 (n1:Int))) (.const (.int .u64 200)) 22) rfl fun vv hg=>by simp [go_sem,exI,q1])<|.cons (.s (.convert 22 63 (.const (.int .u64 (r1:Int)))) rfl fun vv hg=>by simp [go_sem,exI,q2])<|.cons (.s (.binOp .add 63 (.const (.int .u32 1)) (.const (.int .u32 (r1:Int))) 63) rfl fun vv hg=>by simp [go_sem,exI,q3])<|.cons (.b (.buildSlice 28 1 #[(0,.const (.int .u32 (n2:Int)))]) rfl hdn2 (fun vv=>by simp [go_sem,exI,hbs]) (sl_lit n2 hlt2))<|.cons (.g 31 0 c9 rfl)<|.cons (.k _ fun yy vv hg hh=>RtW.of_pt (rg_any qc _ (fun j=>(HQ j).gr hg)))<|.cons (.k (fun yy => #[.agg (crA (k:Int) (nN k) qc),.slice (yy 5 0).1 (dl (n2)) (yy 5 0).2,.agg (ptA (yy 7 0).1 (xN k) (yy 7 0).2 (yy 7 1).1 (yN k) (yy 7 1).2 false)]) fun yy vv hg hh=>RtW.of_pt (hP ▸ rtimesQ k h1 h2 qc (gQ_on h1 h2) hd (fun j=>(HQ j).gr hg) (hh 5 rfl) (hh 7 rfl).1 (hh 7 rfl).2)) .nil
 case hv1=>
  refine .cons (.mk (fun _ _ h=>Value.agg.inj (h 8 rfl)) (fun _ v b H F=>by dsimp only at H ⊢; simp [go_sem,exI,H,F]) zPt ⟨fkc,fkc,fkc,fkc,fkc,fkn bPt,fkc,fkp bPt,fkp bPt,fka,fku,trivial⟩) .nil
 intro yw7 v1 hg h7 hV7
 simp only [FW,putFrom,Act.put,lqA,lqB,lqC,wvals,kW,lqD,lqE,Kw.c,Kw.a,Kw.n,Kw.pt,Kw.u]
 obtain ⟨S7_8,T7_8⟩:Sl v1 (yw7 8 0).1 (P.1)∧Sl v1 (yw7 8 1).1 (P.2.1):=h7 8
 obtain ⟨⟨N7_9,V7_9⟩, -⟩:(v0.heap.size≤(yw7 9 0).2∧Vr v1 (yw7 9 0).2 (ptA (yw7 8 0).1 (P.1) (yw7 8 0).2 (yw7 8 1).1 (P.2.1) (yw7 8 1).2 P.2.2))∧True:=hV7
 clear h7
 replace G:=G.trans hg
 replace c9:=c9.gr hg
 replace HQ:=fun k=>(HQ k).gr hg
 clear hg
 have p8:(yw7 9 0).2+1≤v1.heap.size:=V7_9.p
 go_upto_region 8 with fail
 refine wp_v false [.c (.agg (ptA (yw7 8 0).1 (P.1) (yw7 8 0).2 (yw7 8 1).1 (P.2.1) (yw7 8 1).2 P.2.2)),.c (.agg (pnt P.1 P.2.1 P.2.2)),.a,.u] [0,1] [⟨2,3,27,pnt 0 0 false,fun _=>pnt P.1 P.2.1 P.2.2⟩] ?hs2 ?hv2 ?hf2
 case hs2=>
  exact .cons (.g 41 0 V7_9 rfl)<|.cons (.k (fun yy => #[.agg (ptA (yw7 8 0).1 (P.1) (yw7 8 0).2 (yw7 8 1).1 (P.2.1) (yw7 8 1).2 P.2.2)]) fun yy vv hg hh=>RtW.of_c (Rt.c (rout_any _ _ _ _ _ _ _ _ (S7_8.gr hg) (T7_8.gr hg)))) .nil
 case hv2=>
  refine .cons (.mk (fun _ _ _=>rfl) (fun _ v b H F=>by dsimp only at H ⊢; simp [go_sem,exI,H,F]) zPnt ⟨fkc,fkc,fka,fku,trivial⟩) .nil
 intro yw8 v2 hg h8 hV8
 simp only [FW,putFrom,Act.put,lqA,lqB,lqC,wvals,kW,lqD,lqE,Kw.c,Kw.a,Kw.u]
 obtain ⟨⟨N8_2,V8_2⟩, -⟩:(v1.heap.size≤(yw8 2 0).2∧Vr v2 (yw8 2 0).2 (pnt P.1 P.2.1 P.2.2))∧True:=hV8
 clear h8
 replace G:=G.trans hg
 replace c9:=c9.gr hg
 replace V7_9:=V7_9.gr hg
 replace HQ:=fun k=>(HQ k).gr hg
 replace S7_8:=S7_8.gr hg
 replace T7_8:=T7_8.gr hg
 clear hg
 have p7:(yw8 2 0).2+1≤v2.heap.size:=V8_2.p
 go_upto_region 9 with fail
 refine wp_v false [.pt (0) (0) true,.a,.u] [0] [⟨1,2,41,ptA none 0 0 none 0 0 false,fun yy=>ptA (yy 0 0).1 (0) (yy 0 0).2 (yy 0 1).1 (0) (yy 0 1).2 true⟩] ?hs3 ?hv3 ?hf3
 case hs3=>
  refine .cons (.p (fun yy i=>match i with | 0=>(none,0) | _=>(none,0)) fun yy vv hg hh=>⟨Sl.zero _ _,Sl.zero _ _⟩) .nil
 case hv3=>
  refine .cons (.mk (fun _ _ h=>Value.agg.inj (h 0 rfl)) (fun _ v b H F=>by dsimp only at H ⊢; simp [go_sem,exI,H,F]) zPt ⟨fkp bPt,fka,fku,trivial⟩) .nil
 intro yw9 v3 hg h9 hV9
 simp only [FW,putFrom,Act.put,lqA,lqB,lqC,wvals,kW,lqD,lqE,Kw.a,Kw.pt,Kw.u]
 obtain ⟨S9_0,T9_0⟩:Sl v3 (yw9 0 0).1 (0)∧Sl v3 (yw9 0 1).1 (0):=h9 0
 obtain ⟨⟨N9_1,V9_1⟩, -⟩:(v2.heap.size≤(yw9 1 0).2∧Vr v3 (yw9 1 0).2 (ptA (yw9 0 0).1 (0) (yw9 0 0).2 (yw9 0 1).1 (0) (yw9 0 1).2 true))∧True:=hV9
 clear h9
 replace G:=G.trans hg
 replace c9:=c9.gr hg
 replace V7_9:=V7_9.gr hg
 replace V8_2:=V8_2.gr hg
 replace HQ:=fun k=>(HQ k).gr hg
 replace S7_8:=S7_8.gr hg
 replace T7_8:=T7_8.gr hg
 clear hg
 generalize (yw7 9 0).2=e8 at *
 generalize (yw8 2 0).2=e7 at *
 generalize (yw9 1 0).2=e10 at *
 generalize (yw7 8 0).1=q1p at *
 generalize (yw7 8 0).2=q1n at *
 generalize (yw7 8 1).1=q2p at *
 generalize (yw7 8 1).2=q2n at *
 have GW:Hid (w.heap.size≤e10∧e9<e10∧e8<e10∧e7<e10):=by
  show _∧_
  omega
 have HV:Hid (Gr w v3∧Vr v3 e9 (crA (k:Int) (nN k) qc)∧(∀ j,Sl v3 (qc j).1 (nN k j))∧Vr v3 e8 (ptA q1p P.1 q1n q2p P.2.1 q2n P.2.2)∧Sl v3 q1p P.1∧Sl v3 q2p P.2.1∧Vr v3 e7 (pnt P.1 P.2.1 P.2.2)∧Vr v3 e10 (ptA (yw9 0 0).1 (mlQ k 0 P).1 (yw9 0 0).2 (yw9 0 1).1 (mlQ k 0 P).2.1 (yw9 0 1).2 (mlQ k 0 P).2.2)∧Sl v3 (yw9 0 0).1 (mlQ k 0 P).1∧Sl v3 (yw9 0 1).1 (mlQ k 0 P).2.1):=by
  rw [mlQ_zero h1 h2]
  exact ⟨G,c9,HQ,V7_9,S7_8,T7_8,V8_2,V9_1,Sl.zero _ _,Sl.zero _ _⟩
 go_wp2_with fail
 simp only [Nat.zero_add,Nat.reduceAdd]
 clear G c9 HQ V7_9 V8_2 V9_1 N7_9 N8_2 N9_1 S7_8 T7_8 p9 p8 p7 hwb hdn2 hbs hlt2 hd
 go_loopw [11,12] (fun la ia wr=>∃ (j:Nat) (z:Int) (p1 p2:Option Addr) (n3 n4:Nat),la=.int .i64 z∧ia=.int .u64 (j:Int)∧Hid (Unit→j≤m)∧(j=0∧z = -1∨0<j∧z=(n:Int))∧Hid (Gr w wr∧Vr wr e9 (crA (k:Int) (nN k) qc)∧(∀ j,Sl wr (qc j).1 (nN k j))∧Vr wr e8 (ptA q1p P.1 q1n q2p P.2.1 q2n P.2.2)∧Sl wr q1p P.1∧Sl wr q2p P.2.1∧Vr wr e7 (pnt P.1 P.2.1 P.2.2)∧Vr wr e10 (ptA p1 (mlQ k j P).1 n3 p2 (mlQ k j P).2.1 n4 (mlQ k j P).2.2)∧Sl wr p1 (mlQ k j P).1∧Sl wr p2 (mlQ k j P).2.1)) (fun _ ia _=>((m:Int)+10-intOf ia).toNat)
 case atStart=>exact ⟨0, -1,(yw9 0 0).1,(yw9 0 1).1,(yw9 0 0).2,(yw9 0 1).2,rfl,rfl,fun _=>Nat.zero_le _,.inl ⟨rfl,rfl⟩,HV⟩
 case round=>
  clear HV
  obtain ⟨j,z,p1,p2,n3,n4,rfl,rfl,HJ,hz,HV⟩:=hrel
  have j0:(0:Int)≤(j:Int):=by omega
  by_cases hlt:j<m
  ·have j1:(j:Int)<(m:Int):=by omega
   have jN:j<oN k:=by omega
   have bj:j<18446744073709551616:=by omega
   obtain ⟨Q,hQ⟩:=exl (mlQ k j P)
   have oQ:OnQ k Q:=hQ ▸ mlQ_on h1 h2 _ oP
   rw [hQ] at HV
   obtain ⟨G,c9,HQ,c8,U1p,U2p,c7,c10,S1p,S2p⟩:=HV.out
   obtain ⟨Q2,hQ2⟩:=exl (plQ k Q P)
   have hj1:mlQ k (j+1) P=Q2:=by rw [← hQ2,← hQ,mlQ_add h1 h2 _ _ oP,mlQ_one h1 h2 oP]
   clear HV HJ
   rcases hz with ⟨-,rfl⟩ | ⟨-,rfl⟩
   ·skip
    go_upto_region 14 with fail
    go_upto_region 15 with (go_at_call 10; refine (new_any _).mono ?_; rintro e w' ⟨rfl,rfl⟩)
    refine gen_w (fun v=>Gr wr v∧Tr v (wr.heap.size) (.slice none 0 0) []) ⟨grA,Tr.new _⟩ ?_
    rintro vr ⟨gU,TR0⟩
    refine wp_x true [.c (pv (wr.heap.size) 0),.c (pv e9 0),.c (.int .i64 (k:Int)),.c (.int .u64 (j:Int)),.c (.agg (nw 9 j)),.c (.agg (pnt P.1 P.2.1 P.2.2)),.c (.tuple #[.agg (pnt Q.1 Q.2.1 Q.2.2),.int .i64 0]),.c (.tuple #[.agg (pnt Q.1 Q.2.1 Q.2.2),.int .i64 0]),.c (.agg (pnt Q.1 Q.2.1 Q.2.2)),.c (.int .i64 0),.vt vr.heap.size (pnt 0 0 false) 27,.u,.c (.int .i64 0)] [2,4,5,10] 6 11 (fun v u=>Kp (fun b=>b<vr.heap.size) v u) (MrI vr (wr.heap.size) (evN k)) (fun x v=>Kp (fun b=>b=wr.heap.size) vr v∧∃ z,Tr v (wr.heap.size) z (evN k)∧Vr v (x 10 0).2 (pnt Q.1 Q.2.1 Q.2.2)) 11 (fun _ => #[.pointer (some ⟨wr.heap.size,0,none⟩),.int .i64 (k:Int),.agg (nw 9 j),.agg (pnt P.1 P.2.1 P.2.2)]) 27 (fun x=>pv (x 10 0).2 0) (fun _=>.agg (pnt Q.1 Q.2.1 Q.2.2)) (MrI.start TR0) (fun _ _ _ h g=>h.gr g) ?xo5 ?xm5 ?xs5 ⟨fnc,fnc,fnc,fnc,fnc,fnc,fnc,fnc,fnc,fnc,fnvt,fnu,fnc,trivial⟩ ?xf5
    case xo5=>
     rintro _ v HI
     have hgU:=HI.g gU (Nat.le_refl _)
     refine .cons (.o 3 0 (c9.gr hgU) rfl rfl) ?_
     refine .cons (.k _ fun yy vv hg hh=>RtW.of_c (Rt.c (one_any _ bj _))) ?_
     refine .cons (.g 27 0 (c7.gr hgU) rfl) ?_
     exact .cons (.n 27 rfl HI.k.size) .nil
    case xm5=>exact fun _ _ HI _=>HI.mul TR0.lt fun hT=>mulR h1 h2 (P:=P) oP (d:=j) jN (Q:=Q) hQ hT
    case xs5=>
     rintro x v HI hy
     obtain ⟨hN,hh⟩:=hy 10 (by kernel_rfl)
     have HT:=(vr_vt hh).h
     have FT:=(vr_vt hh).f
     exact ⟨setBlk v _ (pnt Q.1 Q.2.1 Q.2.2),by simp [go_sem,exI,HT,FT],HI.set TR0.lt hN hh (by rw [pnt_size]; decide) (by decide) _⟩
    rintro yw15 v15r ⟨k15,z15,TN15,V15⟩
    simp only [FW,putFrom,Act.put,lqA,lqB,lqC,wvals,kW,lqD,lqE,Kw.c,Kw.u,Kw.vt,pv]
    replace gU:=gr_kp gU k15 (fun b hb e=>by have e:b=wr.heap.size:=e; omega)
    replace TR0:=TN15
    clear TN15 k15
    go_upto_region 16 with fail
    refine wp_w [.c (.int .i64 0),.c (.int .i64 0),.c (.bool false),.c (.bool false),.c (.agg (pnt Q.1 Q.2.1 Q.2.2)),.c (.agg (ptA p1 (Q.1) n3 p2 (Q.2.1) n4 Q.2.2)),.c (.agg (pnt Q.1 Q.2.1 Q.2.2)),.c (.bool false),.c (.bool false),.c (.bool false),.c (.int .i64 (-1)),.c (.bool false),.c (.bool false),.u,.u,.u,.u,.c (.bool false),.c (.bool false)] [1,4,5,6,7] ?hs6 ?hf6
    case hs6=>
     exact .cons (.k _ fun yy vv hg hh=>RtW.of_c (Rt.same (num_any _ _)))<|.cons (.g 27 0 V15 rfl)<|.cons (.g 41 0 (c10.gr gU) rfl)<|.cons (.k (fun yy => #[.agg (ptA p1 (Q.1) n3 p2 (Q.2.1) n4 Q.2.2)]) fun yy vv hg hh=>RtW.of_c (Rt.c (rout_any _ _ _ _ _ _ _ _ (S1p.gr (gU.trans hg)) (S2p.gr (gU.trans hg)))))<|.cons (.s (.binOp .neq 27 (.const (.agg (pnt Q.1 Q.2.1 Q.2.2))) (.const (.agg (pnt Q.1 Q.2.1 Q.2.2))) 27) rfl fun vv hg=>by simp [go_sem,exI,nePn,eqN_self]) .nil
    intro yw16 v4 hg h16
    simp only [FW,putFrom,Act.put,lqA,lqB,lqC,wvals,kW,lqD,lqE,Kw.c,Kw.u]
    clear h16
    replace gU:=gU.trans hg
    have g16:=hg
    clear hg
    go_upto_region 18 with fail
    refine wp_wS [.c (pv (wr.heap.size) 0),.c (.int .i64 (n:Int)),.c (.int .i64 (n:Int))] [1] ?hs7 ?hf7
    case hs7=>
     refine .cons (.k _ fun yy vv hg hh=>RtW.of_c (Rt.same (lenT (TR0.gr (g16.trans hg)) hn))) .nil
    intro yw18 v5 hg h18
    simp only [FW,putFrom,Act.put,lqA,lqB,lqC,wvals,kW,lqD,lqE,Kw.c,pv]
    clear h18
    replace g16:=g16.trans hg
    replace gU:=gU.trans hg
    clear hg
    replace G:=G.trans gU
    replace c9:=c9.gr gU
    replace c7:=c7.gr gU
    replace c8:=c8.gr gU
    replace c10:=c10.gr gU
    replace HQ:=fun k=>(HQ k).gr gU
    replace U1p:=U1p.gr gU
    replace U2p:=U2p.gr gU
    replace S1p:=S1p.gr gU
    replace S2p:=S2p.gr gU
    replace V15:=V15.gr g16
    replace TR0:=TR0.gr g16
    clear g16 gU
    go_upto_region 19 with fail
    refine wp_wTS 4 [.c (.agg (crA (k:Int) (nN k) qc)),.c (.agg (ptA p1 (Q.1) n3 p2 (Q.2.1) n4 Q.2.2)),.c (.agg (ptA q1p (P.1) q1n q2p (P.2.1) q2n P.2.2)),.pt (Q2.1) (Q2.2.1) Q2.2.2] [0,1,2,3] ?hs8 ?hf8
    case hs8=>
     exact .cons (.g 31 0 c9 rfl)<|.cons (.g 41 0 c10 rfl)<|.cons (.g 41 0 c8 rfl)<|.cons (.k (fun yy => #[.agg (crA (k:Int) (nN k) qc),.agg (ptA p1 (Q.1) n3 p2 (Q.2.1) n4 Q.2.2),.agg (ptA q1p (P.1) q1n q2p (P.2.1) q2n P.2.2)]) fun yy vv hg hh=>RtW.of_pt (hQ2 ▸ rplusQ k h1 h2 qc oQ oP (fun j=>(HQ j).gr hg) (S1p.gr hg) (S2p.gr hg) (U1p.gr hg) (U2p.gr hg))) .nil
    refine .s 41 (fun yy=>.pointer (some ⟨e10,0,none⟩)) (fun yy=>.agg (ptA (yy 3 0).1 (Q2.1) (yy 3 0).2 (yy 3 1).1 (Q2.2.1) (yy 3 1).2 Q2.2.2)) fun yw19 v6 hg h19=>?_
    have HT:=(c10.gr hg).h
    have FT:=(c10.gr hg).f
    refine ⟨setBlk v6 (e10) (ptA (yw19 3 0).1 (Q2.1) (yw19 3 0).2 (yw19 3 1).1 (Q2.2.1) (yw19 3 1).2 Q2.2.2),by simp [go_sem,exI,HT,FT],?_⟩
    simp only [FW,putFrom,Act.put,lqA,lqB,lqC,wvals,kW,lqD,lqE,Kw.c,Kw.pt]
    obtain ⟨S19_3,T19_3⟩:Sl v6 (yw19 3 0).1 (Q2.1)∧Sl v6 (yw19 3 1).1 (Q2.2.1):=h19 3
    clear h19
    replace G:=G.trans hg
    replace c9:=c9.gr hg
    replace c7:=c7.gr hg
    replace c8:=c8.gr hg
    replace c10:=c10.gr hg
    replace V15:=V15.gr hg
    replace HQ:=fun k=>(HQ k).gr hg
    replace U1p:=U1p.gr hg
    replace U2p:=U2p.gr hg
    replace S1p:=S1p.gr hg
    replace S2p:=S2p.gr hg
    replace TR0:=TR0.gr hg
    clear hg
    go_wp2_with fail
    go_roundw
    case rel=>
     refine ⟨j+1,(n:Int),(yw19 3 0).1,(yw19 3 1).1,(yw19 3 0).2,(yw19 3 1).2,rfl,by go_num,fun _=>hlt,.inr ⟨by omega,rfl⟩,?_⟩
     rw [hj1]
     exact ⟨gr_setNew G (by have:=GW.out; omega),c9.other (by have:=GW.out; omega),fun j=>Sl.set (HQ j) (by rw [HT]; exact ptA_no _ _ _ _ _ _ _),c8.other (by have:=GW.out; omega),Sl.set U1p (by rw [HT]; exact ptA_no _ _ _ _ _ _ _),Sl.set U2p (by rw [HT]; exact ptA_no _ _ _ _ _ _ _),c7.other (by have:=GW.out; omega),c10.set (by rw [ptA_size]; decide) _,Sl.set S19_3 (by rw [HT]; exact ptA_no _ _ _ _ _ _ _),Sl.set T19_3 (by rw [HT]; exact ptA_no _ _ _ _ _ _ _)⟩
    case measure=>simp [intOf]; omega
   ·skip
    go_upto_region 14 with fail
    go_upto_region 15 with (go_at_call 10; refine (new_any _).mono ?_; rintro e w' ⟨rfl,rfl⟩)
    refine gen_w (fun v=>Gr wr v∧Tr v (wr.heap.size) (.slice none 0 0) []) ⟨grA,Tr.new _⟩ ?_
    rintro vr ⟨gU,TR0⟩
    refine wp_x true [.c (pv (wr.heap.size) 0),.c (pv e9 0),.c (.int .i64 (k:Int)),.c (.int .u64 (j:Int)),.c (.agg (nw 9 j)),.c (.agg (pnt P.1 P.2.1 P.2.2)),.c (.tuple #[.agg (pnt Q.1 Q.2.1 Q.2.2),.int .i64 0]),.c (.tuple #[.agg (pnt Q.1 Q.2.1 Q.2.2),.int .i64 0]),.c (.agg (pnt Q.1 Q.2.1 Q.2.2)),.c (.int .i64 0),.vt vr.heap.size (pnt 0 0 false) 27,.u,.c (.int .i64 0)] [2,4,5,10] 6 11 (fun v u=>Kp (fun b=>b<vr.heap.size) v u) (MrI vr (wr.heap.size) (evN k)) (fun x v=>Kp (fun b=>b=wr.heap.size) vr v∧∃ z,Tr v (wr.heap.size) z (evN k)∧Vr v (x 10 0).2 (pnt Q.1 Q.2.1 Q.2.2)) 11 (fun _ => #[.pointer (some ⟨wr.heap.size,0,none⟩),.int .i64 (k:Int),.agg (nw 9 j),.agg (pnt P.1 P.2.1 P.2.2)]) 27 (fun x=>pv (x 10 0).2 0) (fun _=>.agg (pnt Q.1 Q.2.1 Q.2.2)) (MrI.start TR0) (fun _ _ _ h g=>h.gr g) ?xo9 ?xm9 ?xs9 ⟨fnc,fnc,fnc,fnc,fnc,fnc,fnc,fnc,fnc,fnc,fnvt,fnu,fnc,trivial⟩ ?xf9
    case xo9=>
     rintro _ v HI
     have hgU:=HI.g gU (Nat.le_refl _)
     refine .cons (.o 3 0 (c9.gr hgU) rfl rfl) ?_
     refine .cons (.k _ fun yy vv hg hh=>RtW.of_c (Rt.c (one_any _ bj _))) ?_
     refine .cons (.g 27 0 (c7.gr hgU) rfl) ?_
     exact .cons (.n 27 rfl HI.k.size) .nil
    case xm9=>exact fun _ _ HI _=>HI.mul TR0.lt fun hT=>mulR h1 h2 (P:=P) oP (d:=j) jN (Q:=Q) hQ hT
    case xs9=>
     rintro x v HI hy
     obtain ⟨hN,hh⟩:=hy 10 (by kernel_rfl)
     have HT:=(vr_vt hh).h
     have FT:=(vr_vt hh).f
     exact ⟨setBlk v _ (pnt Q.1 Q.2.1 Q.2.2),by simp [go_sem,exI,HT,FT],HI.set TR0.lt hN hh (by rw [pnt_size]; decide) (by decide) _⟩
    rintro yw15 v15r ⟨k15,z15,TN15,V15⟩
    simp only [FW,putFrom,Act.put,lqA,lqB,lqC,wvals,kW,lqD,lqE,Kw.c,Kw.u,Kw.vt,pv]
    replace gU:=gr_kp gU k15 (fun b hb e=>by have e:b=wr.heap.size:=e; omega)
    replace TR0:=TN15
    clear TN15 k15
    go_upto_region 16 with fail
    refine wp_w [.c (.int .i64 0),.c (.int .i64 0),.c (.bool false),.c (.bool false),.c (.agg (pnt Q.1 Q.2.1 Q.2.2)),.c (.agg (ptA p1 (Q.1) n3 p2 (Q.2.1) n4 Q.2.2)),.c (.agg (pnt Q.1 Q.2.1 Q.2.2)),.c (.bool false),.c (.bool false),.c (.bool false),.c (.int .i64 (n:Int)),.c (.bool true),.c (.bool true),.c (pv (wr.heap.size) 0),.c (.int .i64 (n:Int)),.c (.int .i64 (n:Int)),.c (.bool false),.c (.bool false),.c (.bool false)] [1,4,5,6,7,11,14,16] ?hs10 ?hf10
    case hs10=>
     exact .cons (.k _ fun yy vv hg hh=>RtW.of_c (Rt.same (num_any _ _)))<|.cons (.g 27 0 V15 rfl)<|.cons (.g 41 0 (c10.gr gU) rfl)<|.cons (.k (fun yy => #[.agg (ptA p1 (Q.1) n3 p2 (Q.2.1) n4 Q.2.2)]) fun yy vv hg hh=>RtW.of_c (Rt.c (rout_any _ _ _ _ _ _ _ _ (S1p.gr (gU.trans hg)) (S2p.gr (gU.trans hg)))))<|.cons (.s (.binOp .neq 27 (.const (.agg (pnt Q.1 Q.2.1 Q.2.2))) (.const (.agg (pnt Q.1 Q.2.1 Q.2.2))) 27) rfl fun vv hg=>by simp [go_sem,exI,nePn,eqN_self])<|.cons (.s (.binOp .geq 3 (.const (.int .i64 (n:Int))) (.const (.int .i64 0)) 3) rfl fun vv hg=>by simp [go_sem,exI,n0])<|.cons (.k _ fun yy vv hg hh=>RtW.of_c (Rt.same (lenT (TR0.gr hg) hn)))<|.cons (.s (.binOp .neq 3 (.const (.int .i64 (n:Int))) (.const (.int .i64 (n:Int))) 3) rfl fun vv hg=>by simp [go_sem,exI]) .nil
    intro yw16 v4 hg h16
    simp only [FW,putFrom,Act.put,lqA,lqB,lqC,wvals,kW,lqD,lqE,Kw.c,pv]
    clear h16
    replace gU:=gU.trans hg
    have g16:=hg
    clear hg
    go_upto_region 18 with fail
    refine wp_wS [.c (pv (wr.heap.size) 0),.c (.int .i64 (n:Int)),.c (.int .i64 (n:Int))] [1] ?hs11 ?hf11
    case hs11=>
     refine .cons (.k _ fun yy vv hg hh=>RtW.of_c (Rt.same (lenT (TR0.gr (g16.trans hg)) hn))) .nil
    intro yw18 v5 hg h18
    simp only [FW,putFrom,Act.put,lqA,lqB,lqC,wvals,kW,lqD,lqE,Kw.c,pv]
    clear h18
    replace g16:=g16.trans hg
    replace gU:=gU.trans hg
    clear hg
    replace G:=G.trans gU
    replace c9:=c9.gr gU
    replace c7:=c7.gr gU
    replace c8:=c8.gr gU
    replace c10:=c10.gr gU
    replace HQ:=fun k=>(HQ k).gr gU
    replace U1p:=U1p.gr gU
    replace U2p:=U2p.gr gU
    replace S1p:=S1p.gr gU
    replace S2p:=S2p.gr gU
    replace V15:=V15.gr g16
    replace TR0:=TR0.gr g16
    clear g16 gU
    go_upto_region 19 with fail
    refine wp_wTS 4 [.c (.agg (crA (k:Int) (nN k) qc)),.c (.agg (ptA p1 (Q.1) n3 p2 (Q.2.1) n4 Q.2.2)),.c (.agg (ptA q1p (P.1) q1n q2p (P.2.1) q2n P.2.2)),.pt (Q2.1) (Q2.2.1) Q2.2.2] [0,1,2,3] ?hs12 ?hf12
    case hs12=>
     exact .cons (.g 31 0 c9 rfl)<|.cons (.g 41 0 c10 rfl)<|.cons (.g 41 0 c8 rfl)<|.cons (.k (fun yy => #[.agg (crA (k:Int) (nN k) qc),.agg (ptA p1 (Q.1) n3 p2 (Q.2.1) n4 Q.2.2),.agg (ptA q1p (P.1) q1n q2p (P.2.1) q2n P.2.2)]) fun yy vv hg hh=>RtW.of_pt (hQ2 ▸ rplusQ k h1 h2 qc oQ oP (fun j=>(HQ j).gr hg) (S1p.gr hg) (S2p.gr hg) (U1p.gr hg) (U2p.gr hg))) .nil
    refine .s 41 (fun yy=>.pointer (some ⟨e10,0,none⟩)) (fun yy=>.agg (ptA (yy 3 0).1 (Q2.1) (yy 3 0).2 (yy 3 1).1 (Q2.2.1) (yy 3 1).2 Q2.2.2)) fun yw19 v6 hg h19=>?_
    have HT:=(c10.gr hg).h
    have FT:=(c10.gr hg).f
    refine ⟨setBlk v6 (e10) (ptA (yw19 3 0).1 (Q2.1) (yw19 3 0).2 (yw19 3 1).1 (Q2.2.1) (yw19 3 1).2 Q2.2.2),by simp [go_sem,exI,HT,FT],?_⟩
    simp only [FW,putFrom,Act.put,lqA,lqB,lqC,wvals,kW,lqD,lqE,Kw.c,Kw.pt]
    obtain ⟨S19_3,T19_3⟩:Sl v6 (yw19 3 0).1 (Q2.1)∧Sl v6 (yw19 3 1).1 (Q2.2.1):=h19 3
    clear h19
    replace G:=G.trans hg
    replace c9:=c9.gr hg
    replace c7:=c7.gr hg
    replace c8:=c8.gr hg
    replace c10:=c10.gr hg
    replace V15:=V15.gr hg
    replace HQ:=fun k=>(HQ k).gr hg
    replace U1p:=U1p.gr hg
    replace U2p:=U2p.gr hg
    replace S1p:=S1p.gr hg
    replace S2p:=S2p.gr hg
    replace TR0:=TR0.gr hg
    clear hg
    go_wp2_with fail
    go_roundw
    case rel=>
     refine ⟨j+1,(n:Int),(yw19 3 0).1,(yw19 3 1).1,(yw19 3 0).2,(yw19 3 1).2,rfl,by go_num,fun _=>hlt,.inr ⟨by omega,rfl⟩,?_⟩
     rw [hj1]
     exact ⟨gr_setNew G (by have:=GW.out; omega),c9.other (by have:=GW.out; omega),fun j=>Sl.set (HQ j) (by rw [HT]; exact ptA_no _ _ _ _ _ _ _),c8.other (by have:=GW.out; omega),Sl.set U1p (by rw [HT]; exact ptA_no _ _ _ _ _ _ _),Sl.set U2p (by rw [HT]; exact ptA_no _ _ _ _ _ _ _),c7.other (by have:=GW.out; omega),c10.set (by rw [ptA_size]; decide) _,Sl.set S19_3 (by rw [HT]; exact ptA_no _ _ _ _ _ _ _),Sl.set T19_3 (by rw [HT]; exact ptA_no _ _ _ _ _ _ _)⟩
    case measure=>simp [intOf]; omega
  ·have j1:¬ (j:Int)<(m:Int):=by omega
   have hj:j=m:=by have:=HJ.out (); omega
   obtain rfl:z=(n:Int):=by omega
   rw [hj,hmP] at HV
   obtain ⟨G,c9,HQ,c8,U1p,U2p,c7,c10,S1p,S2p⟩:=HV.out
   replace c10:Vr wr e10 (ptA p1 0 n3 p2 0 n4 true):=c10
   replace S1p:Sl wr p1 0:=S1p
   replace S2p:Sl wr p2 0:=S2p
   clear HV HJ hlt
   go_upto_region 20 with fail
   refine wp_wS [.c (pv e10 2),.c (.bool true),.c (.bool true),.c (.int .i64 (n:Int)),.c (.bool true),.c (.bool true),.c (.bool true)] [1,4] ?hs4 ?hf4
   case hs4=>
    exact .cons (.o 4 2 c10 rfl rfl)<|.cons (.s (.binOp .gtr 3 (.const (.int .i64 (n:Int))) (.const (.int .i64 0)) 3) rfl fun vv hg=>by simp [go_sem,exI,n1p]) .nil
   intro yw20 v4 hg h20
   simp only [FW,putFrom,Act.put,lqA,lqB,lqC,wvals,kW,lqD,lqE,Kw.c,pv]
   clear h20
   replace G:=G.trans hg
   replace c9:=c9.gr hg
   replace c7:=c7.gr hg
   replace c8:=c8.gr hg
   replace c10:=c10.gr hg
   replace HQ:=fun k=>(HQ k).gr hg
   replace U1p:=U1p.gr hg
   replace U2p:=U2p.gr hg
   replace S1p:=S1p.gr hg
   replace S2p:=S2p.gr hg
   clear hg
   go_wp2_with fail
   go_ret
   exact ⟨rfl,G⟩
end
end
end Go.Proofs.YthlbckmkogkbkaaGreat