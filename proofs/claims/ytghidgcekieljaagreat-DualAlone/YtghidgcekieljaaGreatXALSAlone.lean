import Derived.Test.YtghidgcekieljaaGreatXAQG
namespace Go.Proofs.YtghidgcekieljaaGreat
open Go.RowKit Go.Proofs.Tryz
set_option maxRecDepth 100000
set_option maxHeartbeats 8000000
section
attribute [local go_sem ↓] uz1
attribute [local go_sem] uz2
section
attribute [local go_sem] uz8
attribute [local go_sem ↓] uz19 Go.wp_at_zero Go.wp_at_succ
attribute [local go_sem] uz20
attribute [local go_sem ↓] uz13
attribute [local go_sem] uz14
theorem Tr.odd{w:World}{t b:Nat}{v:Value}{c:Array Value}{xs:List (Int×Int)}(h:Tr w t v xs)(k:Vr w b c)(hc:c.size=19):¬Own t v b:=by
 have hs:=k.h.symm▸hc
 rintro (rfl|ho)
 ·simp[blk,h.cell]at hs
 ·rcases h.row.2 with ⟨rfl,-⟩|⟨g,cap,cur,rfl,-,hg,-,-,h3,-⟩
  ·cases ho
  ·obtain rfl:g=b:=Option.some.inj ho;simp[blk,hg]at hs
   omega
theorem Lk.odd{w:World}{t:Option Nat}{b:Nat}{v:Value}{c:Array Value}{xs:List (Int×Int)}(h:Lk w t v xs)(k:Vr w b c)(hc:c.size=19):¬Ow t v b:=fun⟨_,e,ho⟩=>(h _ e).odd k hc ho
theorem bmul_yes{k:Nat}(h1:1≤k)(h2:k≤15){d:Nat}(ld:d<oN k){t:Option Nat}{w:World}{z0:Value}{xs:List (Int×Int)}(hl:Lk w t z0 xs)(hx:xs.length≤800000){Q:Q3}(hQ:mlQ k d (gQ k)=Q):
 Calls prog 24 #[trp t,.int .i64 (k:Int),.agg (nw 9 d)] w fun e w'=>e=.returned (.tuple #[.agg (pnQ Q),.int .i64 0])∧∃v',RecL w.heap.size w w' t z0 v' (xs++evN k):=by
 have HG:Hid _:=get13_yes k h1 h2;have HL:Hid (Lk w t z0 xs):=hl;obtain⟨E,hE⟩:=exl (evN k);have HM:Hid (∀{w:World},Lk w t z0 xs→Calls prog 25 #[trp t,.int .i64 (k:Int),.agg (nw 9 d),.agg (pnt (xN k) (yN k) false)] w fun e w'=>e=.returned (.tuple #[.agg (pnQ Q),.int .i64 0])∧∃v',RecL w.heap.size w w' t z0 v' (xs++E)):=fun hl=>hE▸mmul_yes h1 h2 (gQ_on h1 h2) ld hl hx hQ;rw[hE];clear hl hx hE hQ ld
 go_enter func24,ntmps24
 go_upto_region 1 with fail
 refine gen_w (fun v=>Gr w v∧Vr v (w.heap.size) (nw 9 d)∧Vr v (w.heap.size+1) (pnt 0 0 false)) ⟨grA,vrA,vrA⟩ ?_;rintro v0 ⟨G,c0,c2⟩;have L0:w.heap.size+1<v0.heap.size:=c2.p;refine wp_v false [.c (.int .i64 (k:Int)),.c (.tuple #[.agg (cu (k:Int) (pN k) (aN k) (bN k) (oN k) (xN k) (yN k) (bl (oN k)) (szN k) (lgN k)),.int .i64 0]),.c (.tuple #[.agg (cu (k:Int) (pN k) (aN k) (bN k) (oN k) (xN k) (yN k) (bl (oN k)) (szN k) (lgN k)),.int .i64 0]),.c (.agg (cu (k:Int) (pN k) (aN k) (bN k) (oN k) (xN k) (yN k) (bl (oN k)) (szN k) (lgN k))),.O,.a,.u,.O] [1] [⟨5,6,67,cu 0 0 0 0 0 0 0 0 0 false,fun _=>cu (k:Int) (pN k) (aN k) (bN k) (oN k) (xN k) (yN k) (bl (oN k)) (szN k) (lgN k)⟩] ⟨.z HG.out,⟨⟩⟩ ⟨.k zCu (.t rfl),⟨⟩⟩ fun yw1 v1 hg h1 hV1=>?_;simp only[fzw,Kw.a];obtain⟨⟨N1_5,V1_5⟩,-⟩:=hV1;clear h1;replace G:=G.trans hg;replace c0:=c0.gr hg;replace c2:=c2.gr hg;clear hg
 go_upto_region 2 with fail
 refine wp_wS [.O,.F] [] ⟨⟩ fun yw2 v2 hg h2=>?_;simp only[fzw];clear h2;replace G:=G.trans hg;replace c0:=c0.gr hg;replace c2:=c2.gr hg;replace V1_5:=V1_5.gr hg;clear hg;have L1:(yw1 5 0).2<v2.heap.size:=V1_5.p;generalize (yw1 5 0).2=b3 at *;obtain⟨n,hn⟩:=exl (v2.heap.size);have HV:Hid (GbI n w v2 t z0 z0 xs∧Vr v2 (w.heap.size) (nw 9 d)∧Vr v2 (w.heap.size+1) (pnt 0 0 false)∧Vr v2 b3 (cu (k:Int) (pN k) (aN k) (bN k) (oN k) (xN k) (yN k) (bl (oN k)) (szN k) (lgN k))):=⟨⟨(RecL.refl HL.out n).gr G,by omega,by have:=G.below.size;omega⟩,c0,c2,V1_5⟩;clear G c0 c2 V1_5
 go_upto_region 4 with fail
 refine wp_x false [.c (trp t),.c (.int .i64 (k:Int)),.c (.agg (nw 9 d)),.c (pv b3 37),.c (.agg (pnt (xN k) (yN k) false)),.c (.tuple #[.agg (pnQ Q),.int .i64 0]),.c (.tuple #[.agg (pnQ Q),.int .i64 0]),.c (.agg (pnQ Q)),.c (.int .i64 0),.vt n (pnt 0 0 false) 27,.u,.c (.int .i64 0)] [2,4,9] 5 10 (fun v u=>Kp (fun b=>b<n) v u)
  (fun c v=>∃z,(c=false→z=z0)∧GbI n w v t z0 z (cond c (xs++E) xs)∧Vr v (w.heap.size) (nw 9 d)∧Vr v (w.heap.size+1) (pnt 0 0 false)∧Vr v b3 (cu (k:Int) (pN k) (aN k) (bN k) (oN k) (xN k) (yN k) (bl (oN k)) (szN k) (lgN k)))
  (fun x v=>∃z,GbI n w v t z0 z (xs++E)∧Vr v (w.heap.size+1) (pnt 0 0 false)∧Vr v (x 9 0).2 (pnQ Q))
  25 (fun _ =>#[trp t,.int .i64 (k:Int),.agg (nw 9 d),.agg (pnt (xN k) (yN k) false)]) 27 (fun x=>pv (x 9 0).2 0) (fun _=>.agg (pnQ Q)) ⟨z0,fun _=>rfl,HV⟩ ?x1 ?x2 ?x3 ?x4 ⟨fnc,fnc,fnc,fnc,fnc,fnc,fnc,fnc,fnc,fnvt,fnu,fnc,trivial⟩ ?x5
 case x1=>exact fun _ _ _ ⟨z,hz,G,c0,c2,c3⟩ g=>⟨z,hz,G.trans g,c0.gr g,c2.gr g,c3.gr g⟩
 case x2=>
  rintro _ v ⟨z,hz,G,c0,c2,c3⟩;refine .cons (.g 25 0 c0 rfl) ?_;refine .cons (.g 27 37 c3 rfl) ?_;exact .cons (.n 27 rfl G.s) .nil
 case x3=>
  rintro x v ⟨z,hz,G,c0,c2,c3⟩ hy;obtain rfl:=hz rfl;refine(HM.out G.r.lk).mono ?_;rintro e w' ⟨rfl,z2,r2⟩;exact⟨fun _=>(none,0),rfl,trivial,⟨z2,(fun h=>by cases h),G.next r2,c0.kp r2.kp (G.no HL.out (by omega) (by omega)),c2.kp r2.kp (G.no HL.out (by omega) (by omega)),c3.kp r2.kp (G.no HL.out (by omega) (by omega))⟩,r2.kp.mono fun b _ ho=>by have:=HL.out.own ho;have:=G.h;omega⟩
 case x4=>
  rintro x v ⟨z,hz,G,c0,c2,c3⟩ hy;obtain⟨hN,hh⟩:=hy 9 (by kernel_rfl);have V:=vr_vt hh;have HT:=V.h;have FT:=V.f;have hno:=G.r.lk.odd V (pnt_size _ _ _);have:=G.h;exact⟨setBlk v _ (pnQ Q),by simp[go_sem,exI,HT,FT],z,G.set _ _ (by omega) hno,c2.other (by omega),V.set (by rw[pnt_size];decide) _⟩
 case x5=>
  rintro x v ⟨z3,G,c2,V⟩;simp only[fzw,Kw.vt];generalize (x 9 0).2=b9 at *;have hno:=G.no HL.out (b:=w.heap.size+1) (by omega) (by omega);have:=G.h;have HR:=(G.set (w.heap.size+1) (pnQ Q) (by omega) hno).r.le (by omega);have hh:=(c2.set (by rw[pnt_size];decide) (pnQ Q)).h;have h9:=V.h;have h2:=c2.h;have f2:=c2.f
  go_wp2_with fail
  exact bodyPost_ret (res_two results24 (rd_pn (by rfl) hh) (rd_tmp (by rfl))) rfl ⟨rfl,z3,HR⟩
end
end
section
theorem bulM{k:Nat}(h1:1≤k)(h2:k≤15){d:Nat}(ld:d<oN k){Q:Q3}(hQ:mlQ k d (gQ k)=Q)(w:World):
 Cg 24 #[.pointer none,.int .i64 (k:Int),.agg (nw 9 d)] w (.tuple #[.agg (pnQ Q),.int .i64 0]):=by
 refine(bmul_yes h1 h2 ld (z0:=undef) (xs:=[]) (Lk.none _ _ _) (by decide) hQ).mono ?_;rintro e w' ⟨rfl,v',hR⟩;exact⟨rfl,gr_kp (Gr.refl w) hR.kp fun b _ h=>Ow.none h⟩
section
variable {W:World} {t:Nat} {z0:Value} {xs E:List (Int×Int)}
end
end
section
attribute [local go_sem ↓] uz1
attribute [local go_sem] uz2
section
attribute [local go_sem] uz8
attribute [local go_sem ↓] uz17 Go.wp_at_zero Go.wp_at_succ
attribute [local go_sem] uz18
theorem lsalone_any(id:Int)(a b n:Nat)(la:a<M)(lb:b<M)(wn:n<18446744073709551616)(w:World):Cg 5 #[.int .i64 id,.agg (nw 9 a),.agg (nw 9 b),.int .u64 (n:Int)] w (.bool true):=by
 obtain⟨u,hu,hu2,hk⟩:=idx_conv id;have hbd:=idx_bd id;obtain⟨k,hkk⟩:=exl (idx id);rw[hkk]at hk hbd;obtain⟨h1,h2⟩:=hbd
 have u0:(0:Int)≤(u:Int):=by omega
 have hk2:(1:Int)+(u:Int)%15=(k:Int):=by omega
 have hk3:IntKind.i64.wrap ((u:Int)%15)=(u:Int)%15:=by rw[IntKind.wrap_i64];omega
 have hk4:IntKind.u64.wrap ((u:Int)%15)=(u:Int)%15:=by rw[IntKind.wrap_u64];omega
 have hk5:(u:Int).tmod 15=(u:Int)%15:=by rw[Int.tmod_eq_emod_of_nonneg (by omega)]
 have k0:(1:Int)≤(k:Int):=by omega
 have k1:(k:Int)≤15:=by omega
 have hu3:id%18446744073709551616=(u:Int):=by rw[←hu,IntKind.wrap_u64]
 clear hkk hk;have HGR:Hid (∀w,Calls prog 7 #[.int .i64 (k:Int)] w (GetQ k w)):=fun w=>getq_yes k h1 h2 w;have HAW:Hid (∀w,Cg 12 #[] w (.bool true)):=fun w=>awake20_any w
 go_enter func5,ntmps5
 go_upto_region 1 with fail
 refine gen_w (fun v=>Hid (Gr w v∧Vr v (w.heap.size) (nw 9 a)∧Vr v (w.heap.size+1) (nw 9 b))) ⟨grA,vrA,vrA⟩ ?_;intro u0 HV
 go_upto_region 6 with (first
  | (go_at_call 12;refine(HAW.out _).mono ?_;rintro e WA ⟨rfl,GA⟩)
  | (go_at_call 7;refine(HGR.out _).mono ?_;rintro e WB ⟨qc,rfl,HQ,GB⟩))
 obtain⟨e9,he9⟩:=exl (WB.heap.size);simp only[he9]
 refine gen_w (fun v=>Gr w v∧Vr v e9 (crA (k:Int) (nN k) qc)∧(∀j,Sl v (qc j).1 (nN k j))∧Vr v (w.heap.size) (nw 9 a)∧Vr v (w.heap.size+1) (nw 9 b)) ?_ ?_
 ·subst he9;have g1:Gr WB (WB.alloc (.cells (crA (k:Int) (nN k) qc) 31)):=(Gr.refl _).alloc _;obtain⟨G,c0,c1⟩:=HV.out;have g2:=(GA.trans GB).trans g1;exact⟨G.trans g2,Vr.new _ _ _,fun j=>(HQ j).gr g1,c0.gr g2,c1.gr g2⟩
 clear he9 GA GB HQ HAW HGR hu hu2 hk2 hk3 hk4 hk5 hu3 u0 k0 k1 HV;rintro v0 ⟨G,c9,HQ,c0,c1⟩;have ln:=lt_M _ wn
 have hda:dl a≤1000:=by have:=dl_M a la;omega
 have hdb:dl b≤1000:=by have:=dl_M b lb;omega
 have hdn:dl (oN k)≤1000:=by have:=oN_dl k;omega
 have hn0:0<oN k:=by have:=EC.oN_pos k h1 h2;omega
 obtain⟨x,dx⟩:=exl (a%oN k);have qx:x<oN k:=dx▸Nat.mod_lt _ hn0;obtain⟨y,dy⟩:=exl (b%oN k);have qy:y<oN k:=dy▸Nat.mod_lt _ hn0
 have hdn4:dl n≤400:=by have:=dl_M n ln;omega
 have hdN:dl (oN k)≤400:=by have:=oN_dl k;omega
 have oG:=gQ_on h1 h2;obtain⟨Q,hQ⟩:=exl (mlQ k n (gQ k));have oQ:OnQ k Q:=hQ▸mlQ_on h1 h2 _ oG;obtain⟨P,hP⟩:=exl (mlQ k x (gQ k));have oP:OnQ k P:=hP▸mlQ_on h1 h2 _ oG;obtain⟨R,hR⟩:=exl (mlQ k y Q);have oR:OnQ k R:=hR▸mlQ_on h1 h2 _ oQ;obtain⟨m,hm⟩:=exl ((x+y)%oN k);have qm:m<oN k:=hm▸Nat.mod_lt _ hn0;obtain⟨S,hS⟩:=exl (twQ k (gQ k) x y);have hTS:=hS
 have hmS:mlQ k m (gQ k)=S:=by rw[←hS,twQ,add_modQ h1 h2 oG (mlQ_N h1 h2) hm]
 have hTP:twQ k Q x 0=P:=by rw[twQ,hP,mlQ_zero h1 h2,plQ_inf h1 h2 oP]
 have hTR:twQ k Q 0 y=R:=by rw[twQ,hR,mlQ_zero h1 h2,inf_plQ h1 h2 oR]
 refine wp_v false [.c (.agg (crA (k:Int) (nN k) qc)),.pt (xN k) (yN k) false,.c (.agg (pnt (xN k) (yN k) false)),.a,.u] [0,1,2] [⟨3,4,27,pnt 0 0 false,fun _=>pnt (xN k) (yN k) false⟩] ⟨.g 31 0 c9 rfl,.k _ fun yy vv hg hh=>RtW.of_pt (rg_any qc _ (fun j=>(HQ j).gr hg)),.k (fun yy =>#[.agg (ptA (yy 1 0).1 (xN k) (yy 1 0).2 (yy 1 1).1 (yN k) (yy 1 1).2 false)]) fun yy vv hg hh=>RtW.of_c (Rt.c (rout_any _ _ _ _ _ _ _ _ (hh 1 rfl).1 (hh 1 rfl).2)),⟨⟩⟩ ⟨.k zPnt ⟨fkc,fkp bPnt,fkc,fka,fku,trivial⟩,⟨⟩⟩ fun yw6 v1 hg h6 hV6=>?_;simp only[fzw,Kw.a];obtain⟨⟨N6_3,V6_3⟩,-⟩:(v0.heap.size≤(yw6 3 0).2∧Vr v1 (yw6 3 0).2 (pnt (xN k) (yN k) false))∧True:=hV6;clear h6;have g6:=hg;clear hg
 go_upto_region 7 with fail
 refine wp_v true [.c (.agg (crA (k:Int) (nN k) qc)),.c (.int .u64 (n:Int)),.N n,.n (n),.c (.agg (crA (k:Int) (nN k) qc)),.pt (xN k) (yN k) false,.pt (Q.1) (Q.2.1) Q.2.2,.c (.agg (pnt Q.1 Q.2.1 Q.2.2)),.a,.u] [0,2,3,4,5,6,7] [⟨8,9,27,pnt 0 0 false,fun _=>pnt Q.1 Q.2.1 Q.2.2⟩] ⟨.g 31 0 (c9.gr g6) rfl,.z (one_any _ wn),.k _ fun yy vv hg hh=>RtW.of_n (fm_any ln),.g 31 0 (c9.gr g6) rfl,.k _ fun yy vv hg hh=>RtW.of_pt (rg_any qc _ (fun j=>(HQ j).gr (g6.trans hg))),.k (fun yy =>#[.agg (crA (k:Int) (nN k) qc),.slice (yy 3 0).1 (dl (n)) (yy 3 0).2,.agg (ptA (yy 5 0).1 (xN k) (yy 5 0).2 (yy 5 1).1 (yN k) (yy 5 1).2 false)]) fun yy vv hg hh=>RtW.of_pt (hQ▸rtimesQ k h1 h2 qc (gQ_on h1 h2) hdn4 (fun j=>(HQ j).gr (g6.trans hg)) (hh 3 rfl) (hh 5 rfl).1 (hh 5 rfl).2),.k (fun yy =>#[.agg (ptA (yy 6 0).1 (Q.1) (yy 6 0).2 (yy 6 1).1 (Q.2.1) (yy 6 1).2 Q.2.2)]) fun yy vv hg hh=>RtW.of_c (Rt.c (rout_any _ _ _ _ _ _ _ _ (hh 6 rfl).1 (hh 6 rfl).2)),⟨⟩⟩ ⟨.k zPnt ⟨fkc,fkc,fkc,fkn bPnt,fkc,fkp bPnt,fkp bPnt,fkc,fka,fku,trivial⟩,⟨⟩⟩ fun yw7 v2 hg h7 hV7=>?_;simp only[fzw,Kw.a];obtain⟨⟨N7_8,V7_8⟩,-⟩:(v1.heap.size≤(yw7 8 0).2∧Vr v2 (yw7 8 0).2 (pnt Q.1 Q.2.1 Q.2.2))∧True:=hV7;clear h7;replace g6:=g6.trans hg;have g7:=hg;clear hg
 go_upto_region 8 with fail
 refine wp_w [.N a,.n (a),.c (pv e9 4),.c (.slice (qc 3).1 (dl (oN k)) (qc 3).2),.n (x),.N b,.n (b),.c (pv e9 4),.c (.slice (qc 3).1 (dl (oN k)) (qc 3).2),.n (y),.n (x),.n (y)] [0,1,3,4,5,6,8,9,10,11] ⟨.g 25 0 (c0.gr g6) rfl,.k _ fun yy vv hg hh=>RtW.of_n (fm_any la),.o 29 4 (c9.gr g6) rfl rfl,.k (fun yy =>#[.slice (yy 1 0).1 (dl (a)) (yy 1 0).2,.slice (qc 3).1 (dl (oN k)) (qc 3).2]) fun yy vv hg hh=>RtW.of_n (Rt.n (dx▸rmod_any a (oN k) _ _ _ _ _ (hh 1 rfl) ((HQ 3).gr (g6.trans hg)) hda hdn hn0)),.g 25 0 (c1.gr g6) rfl,.k _ fun yy vv hg hh=>RtW.of_n (fm_any lb),.o 29 4 (c9.gr g6) rfl rfl,.k (fun yy =>#[.slice (yy 6 0).1 (dl (b)) (yy 6 0).2,.slice (qc 3).1 (dl (oN k)) (qc 3).2]) fun yy vv hg hh=>RtW.of_n (Rt.n (dy▸rmod_any b (oN k) _ _ _ _ _ (hh 6 rfl) ((HQ 3).gr (g6.trans hg)) hdb hdn hn0)),.m 4,.m 9,⟨⟩⟩ fun yw8 v3 hg h8=>?_;simp only[fzw];have S8_10:Sl v3 (yw8 10 0).1 (x):=h8 10;have S8_11:Sl v3 (yw8 11 0).1 (y):=h8 11;clear h8;replace g6:=g6.trans hg;replace g7:=g7.trans hg;have g8:=hg;clear hg
 go_upto_region 9 with fail
 refine wp_v true [.c (pv e9 0),.c (.int .i64 (k:Int)),.c (.slice (yw8 10 0).1 (dl (x)) (yw8 10 0).2),.N x,.N 0,.c (.agg (pnt Q.1 Q.2.1 Q.2.2)),.c (.tuple #[.agg (pnt P.1 P.2.1 P.2.2),.int .i64 0]),.c (.tuple #[.agg (pnt P.1 P.2.1 P.2.2),.int .i64 0]),.c (.agg (pnt P.1 P.2.1 P.2.2)),.O,.a,.u,.O] [1,3,5,6] [⟨10,11,27,pnt 0 0 false,fun _=>pnt P.1 P.2.1 P.2.2⟩] ⟨.o 3 0 (c9.gr g6) rfl rfl,.k (fun yy =>#[.slice (yw8 10 0).1 (dl (x)) (yw8 10 0).2]) fun yy vv hg hh=>RtW.of_c (nt_any (S8_10.gr hg)),.g 27 0 (V7_8.gr g8) rfl,.z (dmul_yes h1 h2 (Q:=Q) oQ (x:=x) (y:=0) qx hn0 (R:=P) hTP),⟨⟩⟩ ⟨.k zPnt (.t rfl),⟨⟩⟩ fun yw9 v4 hg h9 hV9=>?_;simp only[fzw,Kw.a];obtain⟨⟨N9_10,V9_10⟩,-⟩:(v3.heap.size≤(yw9 10 0).2∧Vr v4 (yw9 10 0).2 (pnt P.1 P.2.1 P.2.2))∧True:=hV9;clear h9;replace g6:=g6.trans hg;replace g7:=g7.trans hg;replace g8:=g8.trans hg;have g9:=hg;clear hg
 go_upto_region 10 with fail
 refine wp_v true [.c (pv e9 0),.c (.int .i64 (k:Int)),.c (.slice (yw8 10 0).1 (dl (x)) (yw8 10 0).2),.N x,.c (.tuple #[.agg (pnt P.1 P.2.1 P.2.2),.int .i64 0]),.c (.tuple #[.agg (pnt P.1 P.2.1 P.2.2),.int .i64 0]),.c (.agg (pnt P.1 P.2.1 P.2.2)),.O,.a,.u,.O] [1,3,4] [⟨8,9,27,pnt 0 0 false,fun _=>pnt P.1 P.2.1 P.2.2⟩] ⟨.o 3 0 (c9.gr g6) rfl rfl,.k (fun yy =>#[.slice (yw8 10 0).1 (dl (x)) (yw8 10 0).2]) fun yy vv hg hh=>RtW.of_c (nt_any (S8_10.gr (g9.trans hg))),.z (bulM h1 h2 (d:=x) qx (Q:=P) hP),⟨⟩⟩ ⟨.k zPnt (.t rfl),⟨⟩⟩ fun yw10 v5 hg h10 hV10=>?_;simp only[fzw,Kw.a];obtain⟨⟨N10_8,V10_8⟩,-⟩:(v4.heap.size≤(yw10 8 0).2∧Vr v5 (yw10 8 0).2 (pnt P.1 P.2.1 P.2.2))∧True:=hV10;clear h10;replace g6:=g6.trans hg;replace g7:=g7.trans hg;replace g8:=g8.trans hg;replace g9:=g9.trans hg;have g10:=hg;clear hg
 go_upto_region 11 with fail
 refine wp_v true [.c (pv e9 0),.c (.int .i64 (k:Int)),.N 0,.c (.slice (yw8 11 0).1 (dl (y)) (yw8 11 0).2),.N y,.c (.agg (pnt Q.1 Q.2.1 Q.2.2)),.c (.tuple #[.agg (pnt R.1 R.2.1 R.2.2),.int .i64 0]),.c (.tuple #[.agg (pnt R.1 R.2.1 R.2.2),.int .i64 0]),.c (.agg (pnt R.1 R.2.1 R.2.2)),.O,.a,.u,.O] [1,4,5,6] [⟨10,11,27,pnt 0 0 false,fun _=>pnt R.1 R.2.1 R.2.2⟩] ⟨.o 3 0 (c9.gr g6) rfl rfl,.k (fun yy =>#[.slice (yw8 11 0).1 (dl (y)) (yw8 11 0).2]) fun yy vv hg hh=>RtW.of_c (nt_any (S8_11.gr (g9.trans hg))),.g 27 0 (V7_8.gr g8) rfl,.z (dmul_yes h1 h2 (Q:=Q) oQ (x:=0) (y:=y) hn0 qy (R:=R) hTR),⟨⟩⟩ ⟨.k zPnt (.t rfl),⟨⟩⟩ fun yw11 v6 hg h11 hV11=>?_;simp only[fzw,Kw.a];obtain⟨⟨N11_10,V11_10⟩,-⟩:(v5.heap.size≤(yw11 10 0).2∧Vr v6 (yw11 10 0).2 (pnt R.1 R.2.1 R.2.2))∧True:=hV11;clear h11;replace g10:=g10.trans hg;replace g6:=g6.trans hg;replace g7:=g7.trans hg;replace g8:=g8.trans hg;replace g9:=g9.trans hg;have g11:=hg;clear hg
 go_upto_region 12 with fail
 refine wp_v true [.c (pv e9 0),.c (.int .i64 (k:Int)),.c (.slice (yw8 11 0).1 (dl (y)) (yw8 11 0).2),.N y,.c (.agg (pnt Q.1 Q.2.1 Q.2.2)),.c (.tuple #[.agg (pnt R.1 R.2.1 R.2.2),.int .i64 0]),.c (.tuple #[.agg (pnt R.1 R.2.1 R.2.2),.int .i64 0]),.c (.agg (pnt R.1 R.2.1 R.2.2)),.O,.a,.u,.O] [1,3,4,5] [⟨9,10,27,pnt 0 0 false,fun _=>pnt R.1 R.2.1 R.2.2⟩] ⟨.o 3 0 (c9.gr g6) rfl rfl,.k (fun yy =>#[.slice (yw8 11 0).1 (dl (y)) (yw8 11 0).2]) fun yy vv hg hh=>RtW.of_c (nt_any (S8_11.gr (g9.trans hg))),.g 27 0 (V7_8.gr g8) rfl,.z (mulM h1 h2 (P:=Q) oQ (d:=y) qy (Q:=R) hR),⟨⟩⟩ ⟨.k zPnt (.t rfl),⟨⟩⟩ fun yw12 v7 hg h12 hV12=>?_;simp only[fzw,Kw.a];obtain⟨⟨N12_9,V12_9⟩,-⟩:(v6.heap.size≤(yw12 9 0).2∧Vr v7 (yw12 9 0).2 (pnt R.1 R.2.1 R.2.2))∧True:=hV12;clear h12;replace g10:=g10.trans hg;replace g11:=g11.trans hg;replace g6:=g6.trans hg;replace g7:=g7.trans hg;replace g8:=g8.trans hg;replace g9:=g9.trans hg;have g12:=hg;clear hg
 go_upto_region 13 with fail
 refine wp_v true [.c (pv e9 0),.c (.int .i64 (k:Int)),.c (.slice (yw8 10 0).1 (dl (x)) (yw8 10 0).2),.N x,.c (.slice (yw8 11 0).1 (dl (y)) (yw8 11 0).2),.N y,.c (.agg (pnt (xN k) (yN k) false)),.c (.tuple #[.agg (pnt S.1 S.2.1 S.2.2),.int .i64 0]),.c (.tuple #[.agg (pnt S.1 S.2.1 S.2.2),.int .i64 0]),.c (.agg (pnt S.1 S.2.1 S.2.2)),.O,.a,.u,.O] [1,3,5,6,7] [⟨11,12,27,pnt 0 0 false,fun _=>pnt S.1 S.2.1 S.2.2⟩] ⟨.o 3 0 (c9.gr g6) rfl rfl,.k (fun yy =>#[.slice (yw8 10 0).1 (dl (x)) (yw8 10 0).2]) fun yy vv hg hh=>RtW.of_c (nt_any (S8_10.gr (g9.trans hg))),.k (fun yy =>#[.slice (yw8 11 0).1 (dl (y)) (yw8 11 0).2]) fun yy vv hg hh=>RtW.of_c (nt_any (S8_11.gr (g9.trans hg))),.g 27 0 (V6_3.gr g7) rfl,.z (dmul_yes h1 h2 (Q:=(gQ k)) (gQ_on h1 h2) (x:=x) (y:=y) qx qy (R:=S) hTS),⟨⟩⟩ ⟨.k zPnt (.t rfl),⟨⟩⟩ fun yw13 v8 hg h13 hV13=>?_;simp only[fzw,Kw.a];obtain⟨⟨N13_11,V13_11⟩,-⟩:(v7.heap.size≤(yw13 11 0).2∧Vr v8 (yw13 11 0).2 (pnt S.1 S.2.1 S.2.2))∧True:=hV13;clear h13;replace g10:=g10.trans hg;replace g11:=g11.trans hg;replace g12:=g12.trans hg;replace g6:=g6.trans hg;replace g7:=g7.trans hg;replace g8:=g8.trans hg;replace g9:=g9.trans hg;have g13:=hg;clear hg
 go_upto_region 14 with fail
 refine wp_v true [.c (pv e9 0),.c (.int .i64 (k:Int)),.c (.slice (yw8 10 0).1 (dl (x)) (yw8 10 0).2),.c (.slice (yw8 11 0).1 (dl (y)) (yw8 11 0).2),.c (pv e9 4),.c (.slice (qc 3).1 (dl (oN k)) (qc 3).2),.n (m),.N m,.c (.tuple #[.agg (pnt S.1 S.2.1 S.2.2),.int .i64 0]),.c (.tuple #[.agg (pnt S.1 S.2.1 S.2.2),.int .i64 0]),.c (.agg (pnt S.1 S.2.1 S.2.2)),.O,.a,.u,.O] [1,5,6,7,8] [⟨12,13,27,pnt 0 0 false,fun _=>pnt S.1 S.2.1 S.2.2⟩] ⟨.o 3 0 (c9.gr g6) rfl rfl,.o 29 4 (c9.gr g6) rfl rfl,.k (fun yy =>#[.slice (yw8 10 0).1 (dl (x)) (yw8 10 0).2,.slice (yw8 11 0).1 (dl (y)) (yw8 11 0).2,.slice (qc 3).1 (dl (oN k)) (qc 3).2]) fun yy vv hg hh=>RtW.of_n (am_any (S8_10.gr (g9.trans hg)) (S8_11.gr (g9.trans hg)) ((HQ 3).gr (g6.trans hg)) qx qy hdN hm),.k (fun yy =>#[.slice (yy 6 0).1 (dl (m)) (yy 6 0).2]) fun yy vv hg hh=>RtW.of_c (nt_any (hh 6 rfl)),.z (bulM h1 h2 (d:=m) qm (Q:=S) hmS),⟨⟩⟩ ⟨.k zPnt ⟨fkc,fkc,fkc,fkc,fkc,fkc,fkn bPnt,fkc,fkc,fkc,fkc,fkc,fka,fku,fkc,trivial⟩,⟨⟩⟩ fun yw14 v9 hg h14 hV14=>?_;simp only[fzw,Kw.a];obtain⟨⟨N14_12,V14_12⟩,-⟩:(v8.heap.size≤(yw14 12 0).2∧Vr v9 (yw14 12 0).2 (pnt S.1 S.2.1 S.2.2))∧True:=hV14;clear h14;replace g10:=g10.trans hg;replace g11:=g11.trans hg;replace g12:=g12.trans hg;replace g13:=g13.trans hg;replace g6:=g6.trans hg;replace g7:=g7.trans hg;replace g8:=g8.trans hg;replace g9:=g9.trans hg;have g14:=hg;clear hg
 go_upto_region 15 with fail
 refine wp_wS [.O,.O,.T,.T,.O,.O,.T,.T,.T,.O,.O,.T,.T,.T,.O,.O,.T,.T,.T,.O,.O,.T,.T,.T,.O,.O,.T,.T,.T,.c (.agg (pnt P.1 P.2.1 P.2.2)),.c (.agg (pnt P.1 P.2.1 P.2.2)),.T,.T,.T,.c (.agg (pnt R.1 R.2.1 R.2.2)),.c (.agg (pnt R.1 R.2.1 R.2.2)),.T,.T,.T,.c (.agg (pnt S.1 S.2.1 S.2.2)),.c (.agg (pnt S.1 S.2.1 S.2.2)),.T,.T,.T] [1,5,10,15,20,25,29,30,31,34,35,36,39,40,41] ?hs19 ?hf19
 case hs19=>
  exact⟨.y (num_any _),.y (num_any _),.y (num_any _),.y (num_any _),.y (num_any _),.y (num_any _),.g 27 0 (V9_10.gr g10) rfl,.g 27 0 (V10_8.gr g11) rfl,.s (.binOp .eql 27 (.const (.agg (pnt P.1 P.2.1 P.2.2))) (.const (.agg (pnt P.1 P.2.1 P.2.2))) 27) rfl fun vv hg=>by simp[go_sem,exI,eqPn,eqN_self],.g 27 0 (V11_10.gr g12) rfl,.g 27 0 (V12_9.gr g13) rfl,.s (.binOp .eql 27 (.const (.agg (pnt R.1 R.2.1 R.2.2))) (.const (.agg (pnt R.1 R.2.1 R.2.2))) 27) rfl fun vv hg=>by simp[go_sem,exI,eqPn,eqN_self],.g 27 0 (V13_11.gr g14) rfl,.g 27 0 V14_12 rfl,.s (.binOp .eql 27 (.const (.agg (pnt S.1 S.2.1 S.2.2))) (.const (.agg (pnt S.1 S.2.1 S.2.2))) 27) rfl fun vv hg=>by simp[go_sem,exI,eqPn,eqN_self],⟨⟩⟩
 intro yw15 v10 hg h15;simp only[fzw];clear h15;replace g10:=g10.trans hg;replace g11:=g11.trans hg;replace g12:=g12.trans hg;replace g13:=g13.trans hg;replace g14:=g14.trans hg;replace g6:=g6.trans hg;replace g7:=g7.trans hg;replace g8:=g8.trans hg;replace g9:=g9.trans hg;have g15:=hg;clear hg;replace G:=G.trans g6;replace c9:=c9.gr g6;replace c0:=c0.gr g6;replace c1:=c1.gr g6;replace HQ:=fun k=>(HQ k).gr g6;replace V6_3:=V6_3.gr g7;replace V7_8:=V7_8.gr g8;replace S8_10:=S8_10.gr g9;replace S8_11:=S8_11.gr g9;replace V9_10:=V9_10.gr g10;replace V10_8:=V10_8.gr g11;replace V11_10:=V11_10.gr g12;replace V12_9:=V12_9.gr g13;replace V13_11:=V13_11.gr g14;replace V14_12:=V14_12.gr g15;clear g10 g11 g12 g13 g14 g15 g6 g7 g8 g9
 go_wp2_with fail
 go_ret
 exact⟨rfl,G⟩
end
end
end Go.Proofs.YtghidgcekieljaaGreat