import Derived.Test.YtffhepbppiocbaaXALCS
import Derived.Test.YtffhepbppiocbaaRows
namespace Go.Proofs.Ytffhepbppiocbaa
open Go.RowKit Go.Proofs.Try
set_option maxRecDepth 100000
set_option maxHeartbeats 8000000
section
attribute [local go_sem ↓] uz1
attribute [local go_sem] uz2
section
attribute [local go_sem] uz7
attribute [local go_sem ↓] uz10 Go.wp_at_zero Go.wp_at_succ
attribute [local go_sem] uz11
def farN(k:Nat):Nat:=if oN k≤pN k+1 then pN k+1-oN k else oN k-(pN k+1)
theorem nearN(k:Nat)(h1:1≤k)(h2:k≤15):farN k*farN k≤pN k*2^2∧oN k%2=1∧0<bN k∧27<pN k:=by
 obtain rfl|rfl|rfl|rfl|rfl|rfl|rfl|rfl|rfl|rfl|rfl|rfl|rfl|rfl|rfl:k=1∨k=2∨k=3∨k=4∨k=5∨k=6∨k=7∨k=8∨k=9∨k=10∨k=11∨k=12∨k=13∨k=14∨k=15:=by omega
 all_goals decide +kernel
theorem lcnum_any(id:Int)(w:World):Cg 6 #[.int .i64 id] w (.bool true):=by
 obtain⟨u,hu,aU,hk⟩:=idx_conv id;have ab:=idx_bd id;obtain⟨k,aD⟩:=exl (idx id);rw[aD]at hk ab;obtain⟨Q,W⟩:=ab
 have u0:(0:Int)≤u:=by omega
 have aV:(1:Int)+u%15=k:=by omega
 have aW:IntKind.i64.wrap ((u:Int)%15)=(u:Int)%15:=by rw[IntKind.wrap_i64];omega
 have a1:IntKind.u64.wrap ((u:Int)%15)=(u:Int)%15:=by rw[IntKind.wrap_u64];omega
 have a2:(u:Int).tmod 15=(u:Int)%15:=by rw[Int.tmod_eq_emod_of_nonneg (by omega)]
 have k0:(1:Int)≤k:=by omega
 have k1:(k:Int)≤15:=by omega
 have a3:id%18446744073709551616=(u:Int):=by rw[←hu,IntKind.wrap_u64]
 clear aD hk;have HG:Hid (∀w,Cg 9 #[.int .i64 k] w (.tuple #[.agg (cuK k),.int .i64 0])):=fun w=>get13_yes k Q W w;have a4:Hid (∀w,Cg 14 #[] w (.bool true)):=fun w=>awake13_any w;have aE:∀w,(bslS 34 1 #[(0,.int .u32 1)]).run prog w=.ok (.slice (some ⟨w.heap.size,0,none⟩) 1 1) (w.alloc (.cells (nd 1 1) 55)):=fun w=>build1 1 (by decide) w;have aG:∀w,(bslS 34 1 #[(0,.int .u32 4)]).run prog w=.ok (.slice (some ⟨w.heap.size,0,none⟩) 1 1) (w.alloc (.cells (nd 1 4) 55)):=fun w=>build1 4 (by decide) w;have ah:∀w,(bslS 34 1 #[(0,.int .u32 27)]).run prog w=.ok (.slice (some ⟨w.heap.size,0,none⟩) 1 1) (w.alloc (.cells (nd 1 27) 55)):=fun w=>build1 27 (by decide) w
 have aH:∀w,(bslS 34 0 #[]).run prog w=.ok (.slice (some ⟨w.heap.size,0,none⟩) 0 0) (w.alloc (.cells #[] 55)):=fun w=>by kernel_rfl
 go_enter func6,ntmps6
 go_upto_region 4 with (first
  | (go_at_call 14;refine(a4.out _).mono ?_;rintro e WA ⟨rfl,GA⟩)
  | (go_at_call 9;refine(HG.out _).mono ?_;rintro e WB ⟨rfl,GB⟩))
 obtain⟨L,ai⟩:=exl (WB.heap.size);simp only[ai]
 refine gen_w (fun v=>Gr w v∧Vr v L (cuK k)) ?_ ?_
 ·subst ai;exact⟨(GA.trans GB).alloc _,Vr.new _ _ _⟩
 clear ai GA GB;rintro v0 ⟨G,H⟩;obtain⟨aj,aI,bm,aJ⟩:=nearN k Q W;have ab:=pN_bd k Q W
 have hP:0<pN k:=by omega
 have S:=pN_dl k Q W
 have X:dl (pN k)≤400:=by omega
 have ho:dl (oN k)≤400:=by have:=oN_dl k;omega
 have la:=aN_lt k Q W;have lb:=bN_lt k Q W
 have l4:4<pN k:=by omega
 have a5:∀w' {p:Option Addr} {n:Nat},Sl w' p (pN k)→Calls prog 25 #[.slice p (dl (pN k)) n,.int .i64 0] w' fun e ak=>e=.returned (.int .i64 1)∧ak=w':=fun w' p n s=>by
  have:=rbit_any (pN k) n 0 p w' s (by decide);rw[show bitN (pN k) 0=1 by unfold bitN;rw[Nat.pow_zero,Nat.div_one];exact ab.2.2]at this;exact this
 have a6:∀w' {p:Option Addr} {n:Nat},Sl w' p (oN k)→Calls prog 25 #[.slice p (dl (oN k)) n,.int .i64 0] w' fun e ak=>e=.returned (.int .i64 1)∧ak=w':=fun w' p n s=>by
  have:=rbit_any (oN k) n 0 p w' s (by decide);rw[show bitN (oN k) 0=1 by unfold bitN;rw[Nat.pow_zero,Nat.div_one];exact aI]at this;exact this
 have zb:((dl (bN k):Int)==0)=false:=by rw[dl_nought,decide_eq_false (by omega)]
 obtain⟨t1,ao⟩:=exl (aN k*aN k%pN k);have a7:t1<pN k:=ao▸Nat.mod_lt _ hP;obtain⟨t2,ap⟩:=exl (t1*aN k%pN k);have a8:t2<pN k:=ap▸Nat.mod_lt _ hP;obtain⟨t3,aq⟩:=exl (t2*4%pN k);have a9:t3<pN k:=aq▸Nat.mod_lt _ hP;obtain⟨t4,ar⟩:=exl (bN k*bN k%pN k);have ba:t4<pN k:=ar▸Nat.mod_lt _ hP;obtain⟨t5,au⟩:=exl (27%pN k);have bb:t5<pN k:=au▸Nat.mod_lt _ hP;obtain⟨t6,av⟩:=exl (t4*t5%pN k);have bc:t6<pN k:=av▸Nat.mod_lt _ hP;obtain⟨P,aw⟩:=exl ((t3+t6)%pN k);have bn:P<pN k:=aw▸Nat.mod_lt _ hP;have ae:=(EC.disN k Q W).2
 have aK:P≠0:=fun e=>ae (by
  have e1:(4*(aN k*aN k%pN k*aN k%pN k)%pN k+27*(bN k*bN k%pN k)%pN k)%pN k=P:=by
   rw[←aw,←av,←au,←ar,←aq,←ap,←ao];rw[Nat.mul_comm 4,Nat.mul_comm 27,Nat.mod_eq_of_lt aJ]
  rw[e1];exact e)
 have af:0<dl P:=by
  have:dl P≠0:=fun e=>aK (dl_eq_zero _ e)
  omega
 obtain⟨U,ac⟩:=exl (pN k+1)
 have aL:dl U≤400:=by rw[←ac];have:=dl_add (pN k) 1 18 S (by decide);omega
 obtain⟨F,hF⟩:=exl (farN k);rw[hF]at aj;unfold farN at hF;rw[ac]at hF
 have ag:dl F≤19:=by
  have Q:=dl_add (pN k) 1 18 S (by decide);have W:=oN_dl k;rw[ac]at Q;rw[←hF]
  split
  ·exact dl_low _ U 19 (by omega) Q
  ·exact dl_low _ (oN k) 19 (by omega) (by omega)
 have bd:dl (F*F)≤400:=by have:=dl_mul F F 19 19 ag ag;omega
 have be:dl (pN k*2^2)≤400:=by have:=dl_mul (pN k) (2^2) 18 1 S (by decide);omega
 obtain⟨zn,aM⟩:=exl (cmpZ (F*F) (pN k*2^2));have bf:decide (zn≤0)=true:=decide_eq_true (by rw[←aM];unfold cmpZ;split <;> (try split) <;> omega);obtain⟨yo,ax⟩:=exl (cmpZ U (oN k));obtain⟨bq,ay⟩:=exl (decide (0≤yo));obtain⟨T,hT⟩:=exl (bl (pN k))
 have bo:(T:Int)≤576:=by
  have:(bl (pN k)+31)/32≤18:=S
  omega
 have tw:IntKind.i64.wrap ((T:Int)+7)=(T:Int)+7:=wrap_id (by omega) (by omega);have tv:IntKind.i64.wrap (((T:Int)+7).tdiv 8)=(szN k:Int):=tdiv8 (by omega) (by omega) (by unfold szN;rw[hT];omega);obtain⟨b7,h7⟩:=exl (((k:Int)==7));clear ae aK hu aU aV aW a1 a2 a3 u0;refine wp_w [.c (pv L 1),.N (pN k),.n (pN k),.c (pv L 28),.N (oN k),.n (oN k),.n (pN k),.n (oN k)] [1,2,4,5,6,7] ⟨.g 25 1 H rfl,.k _ fun l C d J=>RtW.of_n (fm_any (nN_M k Q W).1),.g 25 28 H rfl,.k _ fun l C d J=>RtW.of_n (fm_any (nN_M k Q W).2.2.2.1),.m 2,.m 5,⟨⟩⟩ fun f v1 d h4=>?_;simp only[fzw];have h:Sl v1 (f 6 0).1 (pN k):=h4 6;have i:Sl v1 (f 7 0).1 (oN k):=h4 7;clear h4;replace G:=G.trans d;replace H:=H.gr d;clear d
 go_upto_region 5 with fail
 refine wp_w [.c (pv L 10),.N (aN k),.n (aN k),.c (pv L 19),.N (bN k),.n (bN k),.n (aN k),.n (bN k)] [1,2,4,5,6,7] ⟨.g 25 10 H rfl,.k _ fun l C d J=>RtW.of_n (fm_any (nN_M k Q W).2.1),.g 25 19 H rfl,.k _ fun l C d J=>RtW.of_n (fm_any (nN_M k Q W).2.2.1),.m 2,.m 5,⟨⟩⟩ fun q v2 d h5=>?_;simp only[fzw];have x:Sl v2 (q 6 0).1 (aN k):=h5 6;have A:Sl v2 (q 7 0).1 (bN k):=h5 7;clear h5;replace G:=G.trans d;replace H:=H.gr d;replace h:=h.gr d;replace i:=i.gr d;clear d
 go_upto_region 6 with fail
 refine wp_wS [.O,.O,.F,.F,.c (.slice (f 6 0).1 (dl (pN k)) (f 6 0).2),.c (.int .i64 1),.F,.F,.F,.c (.slice (f 7 0).1 (dl (oN k)) (f 7 0).2),.c (.int .i64 1),.F,.F,.F,.c (.slice (q 6 0).1 (dl (aN k)) (q 6 0).2),.c (.slice (f 6 0).1 (dl (pN k)) (f 6 0).2),.c (.int .i64 (-1)),.F,.F,.F,.c (.slice (q 7 0).1 (dl (bN k)) (q 7 0).2),.c (.slice (f 6 0).1 (dl (pN k)) (f 6 0).2),.c (.int .i64 (-1)),.F,.F,.F,.c (.slice (q 7 0).1 (dl (bN k)) (q 7 0).2),.c (.int .i64 (dl (bN k))),.F,.F] [1,5,10,16,22,28] ⟨.y (num_any _),.k (fun l =>#[.slice (f 6 0).1 (dl (pN k)) (f 6 0).2,.int .i64 0]) fun l C d J=>RtW.of_c (Rt.same (a5 _ (h.gr d))),.k (fun l =>#[.slice (f 7 0).1 (dl (oN k)) (f 7 0).2,.int .i64 0]) fun l C d J=>RtW.of_c (Rt.same (a6 _ (i.gr d))),.k (fun l =>#[.slice (q 6 0).1 (dl (aN k)) (q 6 0).2,.slice (f 6 0).1 (dl (pN k)) (f 6 0).2]) fun l C d J=>RtW.of_c (cz_any (x.gr d) (h.gr d) (dl_low _ (pN k) 400 (by omega) X) X (by unfold cmpZ;rw[if_pos la])),.k (fun l =>#[.slice (q 7 0).1 (dl (bN k)) (q 7 0).2,.slice (f 6 0).1 (dl (pN k)) (f 6 0).2]) fun l C d J=>RtW.of_c (cz_any (A.gr d) (h.gr d) (dl_low _ (pN k) 400 (by omega) X) X (by unfold cmpZ;rw[if_pos lb])),.s (.binOp .eql 3 (.const (.int .i64 (dl (bN k)))) (.const (.int .i64 0)) 3) rfl fun C d=>by simp[go_sem,exI,zb],⟨⟩⟩ fun bp v3 d h6=>?_;simp only[fzw];clear h6;replace G:=G.trans d;replace H:=H.gr d;replace h:=h.gr d;replace i:=i.gr d;replace x:=x.gr d;replace A:=A.gr d;clear d
 go_upto_region 8 with fail
 refine wp_wS [.c (.slice (q 6 0).1 (dl (aN k)) (q 6 0).2),.c (.slice (q 6 0).1 (dl (aN k)) (q 6 0).2),.c (.slice (f 6 0).1 (dl (pN k)) (f 6 0).2),.n (t1),.c (.slice (q 6 0).1 (dl (aN k)) (q 6 0).2),.c (.slice (f 6 0).1 (dl (pN k)) (f 6 0).2),.n (t2),.n (t2)] [3,6,7] ⟨.k (fun l =>#[.slice (q 6 0).1 (dl (aN k)) (q 6 0).2,.slice (q 6 0).1 (dl (aN k)) (q 6 0).2,.slice (f 6 0).1 (dl (pN k)) (f 6 0).2]) fun l C d J=>RtW.of_n (mm_any (x.gr d) (x.gr d) (h.gr d) la la X ao),.k (fun l =>#[.slice (l 3 0).1 (dl (t1)) (l 3 0).2,.slice (q 6 0).1 (dl (aN k)) (q 6 0).2,.slice (f 6 0).1 (dl (pN k)) (f 6 0).2]) fun l C d J=>RtW.of_n (mm_any (J 3 rfl) (x.gr d) (h.gr d) a7 la X ap),.m 6,⟨⟩⟩ fun Y v4 d h8=>?_;simp only[fzw];have D:Sl v4 (Y 7 0).1 (t2):=h8 7;clear h8;replace G:=G.trans d;replace H:=H.gr d;replace h:=h.gr d;replace i:=i.gr d;replace x:=x.gr d;replace A:=A.gr d;clear d
 go_upto_region 9 with fail
 refine wp_wS [.c (.slice (Y 7 0).1 (dl (t2)) (Y 7 0).2),.n (4),.c (.slice (f 6 0).1 (dl (pN k)) (f 6 0).2),.n (t3),.c (.slice (q 7 0).1 (dl (bN k)) (q 7 0).2),.c (.slice (q 7 0).1 (dl (bN k)) (q 7 0).2),.c (.slice (f 6 0).1 (dl (pN k)) (f 6 0).2),.n (t4),.n (27),.c (.slice (f 6 0).1 (dl (pN k)) (f 6 0).2),.n (t5),.c (.slice (f 6 0).1 (dl (pN k)) (f 6 0).2),.n (t6),.c (.slice (f 6 0).1 (dl (pN k)) (f 6 0).2),.n (P),.n (P)] [1,3,7,8,10,12,14,15] ⟨.b (.buildSlice 34 1 #[(0,.const (.int .u32 4))]) rfl rfl (fun C=>by simp[go_sem,exI,aG];rfl) (sl_lit 4 (by decide)),.k (fun l =>#[.slice (Y 7 0).1 (dl (t2)) (Y 7 0).2,.slice (l 1 0).1 (dl (4)) (l 1 0).2,.slice (f 6 0).1 (dl (pN k)) (f 6 0).2]) fun l C d J=>RtW.of_n (mm_any (D.gr d) (J 1 rfl) (h.gr d) a8 l4 X aq),.k (fun l =>#[.slice (q 7 0).1 (dl (bN k)) (q 7 0).2,.slice (q 7 0).1 (dl (bN k)) (q 7 0).2,.slice (f 6 0).1 (dl (pN k)) (f 6 0).2]) fun l C d J=>RtW.of_n (mm_any (A.gr d) (A.gr d) (h.gr d) lb lb X ar),.b (.buildSlice 34 1 #[(0,.const (.int .u32 27))]) rfl rfl (fun C=>by simp[go_sem,exI,ah];rfl) (sl_lit 27 (by decide)),.k (fun l =>#[.slice (l 8 0).1 (dl (27)) (l 8 0).2,.slice (f 6 0).1 (dl (pN k)) (f 6 0).2]) fun l C d J=>RtW.of_n (Rt.n (au▸rmod_any 27 (pN k) _ _ _ _ _ (J 8 rfl) (h.gr d) (by decide) (by omega) hP)),.k (fun l =>#[.slice (l 7 0).1 (dl (t4)) (l 7 0).2,.slice (l 10 0).1 (dl (t5)) (l 10 0).2,.slice (f 6 0).1 (dl (pN k)) (f 6 0).2]) fun l C d J=>RtW.of_n (mm_any (J 7 rfl) (J 10 rfl) (h.gr d) ba bb X av),.k (fun l =>#[.slice (l 3 0).1 (dl (t3)) (l 3 0).2,.slice (l 12 0).1 (dl (t6)) (l 12 0).2,.slice (f 6 0).1 (dl (pN k)) (f 6 0).2]) fun l C d J=>RtW.of_n (am_any (J 3 rfl) (J 12 rfl) (h.gr d) a9 bc X aw),.m 14,⟨⟩⟩ fun V v5 d h9=>?_;simp only[fzw];have j:Sl v5 (V 15 0).1 (P):=h9 15;clear h9;replace G:=G.trans d;replace H:=H.gr d;replace h:=h.gr d;replace i:=i.gr d;replace x:=x.gr d;replace A:=A.gr d;replace D:=D.gr d;clear d
 go_upto_region 10 with fail
 refine wp_wS [.c (.slice (f 6 0).1 (dl (pN k)) (f 6 0).2),.n (1),.n (U),.n (U)] [1,2,3] ⟨.b (.buildSlice 34 1 #[(0,.const (.int .u32 1))]) rfl rfl (fun C=>by simp[go_sem,exI,aE];rfl) (sl_lit 1 (by decide)),.k (fun l =>#[.slice (f 6 0).1 (dl (pN k)) (f 6 0).2,.slice (l 1 0).1 (dl (1)) (l 1 0).2]) fun l C d J=>RtW.of_n (Rt.n (ac▸radd_any (pN k) 1 _ _ _ _ _ (h.gr d) (J 1 rfl) (by omega) (by decide))),.m 2,⟨⟩⟩ fun I v6 d aO=>?_;simp only[fzw];have B:Sl v6 (I 3 0).1 (U):=aO 3;clear aO;replace G:=G.trans d;replace H:=H.gr d;replace h:=h.gr d;replace i:=i.gr d;replace x:=x.gr d;replace A:=A.gr d;replace D:=D.gr d;replace j:=j.gr d;clear d
 go_upto_region 11 with fail
 refine wp_wS [.n (0),.n (0)] [0,1] ⟨.b (t:=55) (z :=#[]) (.buildSlice 34 0 #[]) rfl rfl (fun C=>by simp[go_sem,exI,aH];rfl) (fun _=>Sl.zero _ _),.m 0,⟨⟩⟩ fun aP v7 d aQ=>?_;simp only[fzw];have K:Sl v7 (aP 1 0).1 (0):=aQ 1;clear aQ;replace G:=G.trans d;replace H:=H.gr d;replace h:=h.gr d;replace i:=i.gr d;replace x:=x.gr d;replace A:=A.gr d;replace D:=D.gr d;replace j:=j.gr d;replace B:=B.gr d;clear d
 go_upto_region 12 with fail
 refine wp_wS [.c (.slice (I 3 0).1 (dl (U)) (I 3 0).2),.c (.slice (f 7 0).1 (dl (oN k)) (f 7 0).2),.c (.int .i64 yo),.c (.bool bq)] [2,3] ⟨.k (fun l =>#[.slice (I 3 0).1 (dl (U)) (I 3 0).2,.slice (f 7 0).1 (dl (oN k)) (f 7 0).2]) fun l C d J=>RtW.of_c (cz_any (B.gr d) (i.gr d) aL ho ax),.s (.binOp .geq 3 (.const (.int .i64 yo)) (.const (.int .i64 0)) 3) rfl fun C d=>by simp[go_sem,exI,ay],⟨⟩⟩ fun bj v8 d bg=>?_;simp only[fzw];clear bg;replace G:=G.trans d;replace H:=H.gr d;replace h:=h.gr d;replace i:=i.gr d;replace x:=x.gr d;replace A:=A.gr d;replace D:=D.gr d;replace j:=j.gr d;replace B:=B.gr d;replace K:=K.gr d;clear d
 go_upto_if 96 with fail
 go_cut [12] from 97 to 102 (fun a0 wx=>∃(px:Option Addr) (nx:Nat),a0=.slice px (dl F) nx∧Hid (Gr w wx∧Vr wx L (cuK k)∧Sl wx (f 6 0).1 (pN k)∧Sl wx (f 7 0).1 (oN k)∧Sl wx (V 15 0).1 P∧Sl wx px F))
 case first=>
  by_cases hle:oN k≤U
  ·obtain rfl:bq=true:=by rw[←ay];exact decide_eq_true (by rw[←ax];unfold cmpZ;split <;> (try split) <;> omega)
   rw[if_pos hle]at hF
   go_upto_region 13 with fail
   refine wp_wS [.c (.slice (I 3 0).1 (dl (U)) (I 3 0).2),.c (.slice (f 7 0).1 (dl (oN k)) (f 7 0).2),.n (F),.n (F)] [2,3] ⟨.k (fun l =>#[.slice (I 3 0).1 (dl (U)) (I 3 0).2,.slice (f 7 0).1 (dl (oN k)) (f 7 0).2]) fun l C d J=>RtW.of_n (sb_any (B.gr d) (i.gr d) aL (by omega) hF),.m 2,⟨⟩⟩ fun Z v9 d aR=>?_;simp only[fzw];have az:Sl v9 (Z 3 0).1 (F):=aR 3;clear aR;replace G:=G.trans d;replace H:=H.gr d;replace h:=h.gr d;replace i:=i.gr d;replace x:=x.gr d;replace A:=A.gr d;replace D:=D.gr d;replace j:=j.gr d;replace B:=B.gr d;replace K:=K.gr d;clear d
   go_wp2_with fail
   go_meet
   exact⟨(Z 3 0).1,(Z 3 0).2,rfl,G,H,h,i,j,az⟩
  ·obtain rfl:bq=false:=by rw[←ay];exact decide_eq_false (by rw[←ax];unfold cmpZ;split <;> (try split) <;> omega)
   rw[if_neg hle]at hF
   go_upto_region 14 with fail
   refine wp_wS [.c (.slice (f 7 0).1 (dl (oN k)) (f 7 0).2),.c (.slice (I 3 0).1 (dl (U)) (I 3 0).2),.n (F),.n (F)] [2,3] ⟨.k (fun l =>#[.slice (f 7 0).1 (dl (oN k)) (f 7 0).2,.slice (I 3 0).1 (dl (U)) (I 3 0).2]) fun l C d J=>RtW.of_n (sb_any (i.gr d) (B.gr d) ho (by omega) hF),.m 2,⟨⟩⟩ fun aa v9 d aS=>?_;simp only[fzw];have aA:Sl v9 (aa 3 0).1 (F):=aS 3;clear aS;replace G:=G.trans d;replace H:=H.gr d;replace h:=h.gr d;replace i:=i.gr d;replace x:=x.gr d;replace A:=A.gr d;replace D:=D.gr d;replace j:=j.gr d;replace B:=B.gr d;replace K:=K.gr d;clear d
   go_wp2_with fail
   go_meet
   exact⟨(aa 3 0).1,(aa 3 0).2,rfl,G,H,h,i,j,aA⟩
 clear G H h i x A D j B K;obtain⟨px,nx,rfl,HV⟩:=hcut;obtain⟨G,H,h,i,j,SF⟩:=HV.out;clear HV
 go_upto_region 15 with fail
 refine wp_wS [.c (.slice px (dl (F)) nx),.c (.slice px (dl (F)) nx),.n (F*F),.c (.slice (f 6 0).1 (dl (pN k)) (f 6 0).2),.n (pN k*2^2),.c (.int .i64 zn),.T,.T] [2,4,5,6] ⟨.k (fun l =>#[.slice px (dl (F)) nx,.slice px (dl (F)) nx]) fun l C d J=>RtW.of_n (Rt.n (rmul_any F F _ _ _ _ _ (SF.gr d) (SF.gr d) (by omega) (by omega))),.k (fun l =>#[.slice (f 6 0).1 (dl (pN k)) (f 6 0).2,.int .i64 2]) fun l C d J=>RtW.of_n (Rt.n (rshl_any (pN k) _ 2 _ _ (h.gr d) (by omega) (by decide))),.k (fun l =>#[.slice (l 2 0).1 (dl (F*F)) (l 2 0).2,.slice (l 4 0).1 (dl (pN k*2^2)) (l 4 0).2]) fun l C d J=>RtW.of_c (cz_any (J 2 rfl) (J 4 rfl) bd be aM),.s (.binOp .leq 3 (.const (.int .i64 zn)) (.const (.int .i64 0)) 3) rfl fun C d=>by simp[go_sem,exI,bf],⟨⟩⟩ fun bk v9 d bh=>?_;simp only[fzw];clear bh;replace G:=G.trans d;replace H:=H.gr d;replace h:=h.gr d;replace i:=i.gr d;replace j:=j.gr d;replace SF:=SF.gr d;clear d
 go_upto_region 16 with fail
 by_cases hk1:(k:Int)=1
 ·have b1:((k:Int)==1)=true:=by rw[beq_iff_eq];exact hk1
  have aB:lgN k=true:=by unfold lgN;rw[b1];rfl
  refine wp_w [.c (.slice (V 15 0).1 (dl (P)) (V 15 0).2),.c (.int .i64 (dl (P))),.T,.T,.T,.T,.T,.c (pv L 56),.c (.int .i64 (bl (oN k))),.c (.slice (f 7 0).1 (dl (oN k)) (f 7 0).2),.c (.int .i64 (bl (oN k):Nat)),.T,.T,.T,.c (pv L 57),.c (.int .i64 (szN k)),.c (.slice (f 6 0).1 (dl (pN k)) (f 6 0).2),.c (.int .i64 T),.c (.int .i64 ((T:Int)+7)),.c (.int .i64 (szN k)),.T,.T,.T,.c (pv L 58),.c (.bool (lgN k)),.c (pv L 0),.c (.int .i64 k),.T,.T,.u,.u,.u,.T,.T,.T,.T] [2,8,10,11,15,17,18,19,20,24,26,27,33] ?hs12 ?hf12
  case hs12=>
   exact⟨.s (.binOp .gtr 3 (.const (.int .i64 (dl (P)))) (.const (.int .i64 0)) 3) rfl fun C d=>by simp[go_sem,exI,af],.o 3 56 H rfl (by exact cu_56 _ _ _ _ _ _ _ _ _ _),.k (fun l =>#[.slice (f 7 0).1 (dl (oN k)) (f 7 0).2]) fun l C d J=>RtW.of_c (bt_any (i.gr d) ho rfl),.s (.binOp .eql 3 (.const (.int .i64 (bl (oN k)))) (.const (.int .i64 (bl (oN k):Nat))) 3) rfl fun C d=>by simp[go_sem,exI],.o 3 57 H rfl (by exact cu_57 _ _ _ _ _ _ _ _ _ _),.k (fun l =>#[.slice (f 6 0).1 (dl (pN k)) (f 6 0).2]) fun l C d J=>RtW.of_c (bt_any (h.gr d) X hT),.s (.binOp .add 3 (.const (.int .i64 T)) (.const (.int .i64 7)) 3) rfl fun C d=>by simp[go_sem,exI,tw],.s (.binOp .quo 3 (.const (.int .i64 ((T:Int)+7))) (.const (.int .i64 8)) 3) rfl fun C d=>by simp[go_sem,exI,tv],.s (.binOp .eql 3 (.const (.int .i64 (szN k))) (.const (.int .i64 (szN k))) 3) rfl fun C d=>by simp[go_sem,exI],.o 4 58 H rfl (by exact cu_58 _ _ _ _ _ _ _ _ _ _),.o 3 0 H rfl (by exact cu_0 _ _ _ _ _ _ _ _ _ _),.s (.binOp .eql 3 (.const (.int .i64 k)) (.const (.int .i64 1)) 3) rfl fun C d=>by simp[go_sem,exI,b1],.s (.binOp .eql 4 (.const (.bool (lgN k))) (.const (.bool true)) 4) rfl fun C d=>by simp[go_sem,exI,aB],⟨⟩⟩
  intro aT bi d aC;simp only[fzw];clear aC;replace G:=G.trans d;replace H:=H.gr d;replace h:=h.gr d;replace i:=i.gr d;replace j:=j.gr d;replace SF:=SF.gr d;clear d
  go_wp2_with fail
  go_ret
  exact⟨rfl,G⟩
 ·have b1:((k:Int)==1)=false:=by rw[beq_eq_false_iff_ne];exact hk1
  have aB:lgN k=b7:=by unfold lgN;rw[b1,h7];rfl
  refine wp_w [.c (.slice (V 15 0).1 (dl (P)) (V 15 0).2),.c (.int .i64 (dl (P))),.T,.T,.T,.T,.T,.c (pv L 56),.c (.int .i64 (bl (oN k))),.c (.slice (f 7 0).1 (dl (oN k)) (f 7 0).2),.c (.int .i64 (bl (oN k):Nat)),.T,.T,.T,.c (pv L 57),.c (.int .i64 (szN k)),.c (.slice (f 6 0).1 (dl (pN k)) (f 6 0).2),.c (.int .i64 T),.c (.int .i64 ((T:Int)+7)),.c (.int .i64 (szN k)),.T,.T,.T,.c (pv L 58),.c (.bool (lgN k)),.c (pv L 0),.c (.int .i64 k),.F,.F,.c (pv L 0),.c (.int .i64 k),.c (.bool b7),.c (.bool b7),.T,.T,.T] [2,8,10,11,15,17,18,19,20,24,26,27,30,31,33] ?hs13 ?hf13
  case hs13=>
   exact⟨.s (.binOp .gtr 3 (.const (.int .i64 (dl (P)))) (.const (.int .i64 0)) 3) rfl fun C d=>by simp[go_sem,exI,af],.o 3 56 H rfl (by exact cu_56 _ _ _ _ _ _ _ _ _ _),.k (fun l =>#[.slice (f 7 0).1 (dl (oN k)) (f 7 0).2]) fun l C d J=>RtW.of_c (bt_any (i.gr d) ho rfl),.s (.binOp .eql 3 (.const (.int .i64 (bl (oN k)))) (.const (.int .i64 (bl (oN k):Nat))) 3) rfl fun C d=>by simp[go_sem,exI],.o 3 57 H rfl (by exact cu_57 _ _ _ _ _ _ _ _ _ _),.k (fun l =>#[.slice (f 6 0).1 (dl (pN k)) (f 6 0).2]) fun l C d J=>RtW.of_c (bt_any (h.gr d) X hT),.s (.binOp .add 3 (.const (.int .i64 T)) (.const (.int .i64 7)) 3) rfl fun C d=>by simp[go_sem,exI,tw],.s (.binOp .quo 3 (.const (.int .i64 ((T:Int)+7))) (.const (.int .i64 8)) 3) rfl fun C d=>by simp[go_sem,exI,tv],.s (.binOp .eql 3 (.const (.int .i64 (szN k))) (.const (.int .i64 (szN k))) 3) rfl fun C d=>by simp[go_sem,exI],.o 4 58 H rfl (by exact cu_58 _ _ _ _ _ _ _ _ _ _),.o 3 0 H rfl (by exact cu_0 _ _ _ _ _ _ _ _ _ _),.s (.binOp .eql 3 (.const (.int .i64 k)) (.const (.int .i64 1)) 3) rfl fun C d=>by simp[go_sem,exI,b1],.o 3 0 H rfl (by exact cu_0 _ _ _ _ _ _ _ _ _ _),.s (.binOp .eql 3 (.const (.int .i64 k)) (.const (.int .i64 7)) 3) rfl fun C d=>by simp[go_sem,exI,h7],.s (.binOp .eql 4 (.const (.bool (lgN k))) (.const (.bool b7)) 4) rfl fun C d=>by simp[go_sem,exI,aB],⟨⟩⟩
  intro aT bi d aC;simp only[fzw];clear aC;replace G:=G.trans d;replace H:=H.gr d;replace h:=h.gr d;replace i:=i.gr d;replace j:=j.gr d;replace SF:=SF.gr d;clear d
  go_wp2_with fail
  go_ret
  exact⟨rfl,G⟩
end
end
end Go.Proofs.Ytffhepbppiocbaa