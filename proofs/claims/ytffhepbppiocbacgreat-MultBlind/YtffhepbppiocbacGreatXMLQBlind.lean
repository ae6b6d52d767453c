import Derived.Test.YtffhepbppiocbacGreatXMQG
namespace Go.Proofs.YtffhepbppiocbacGreat
open Go.RowKit Go.Proofs.Tryz
set_option maxRecDepth 100000
set_option maxHeartbeats 8000000
section
attribute [local go_sem ↓] uz1
attribute [local go_sem] uz2
section
attribute [local go_sem] uz8
attribute [local go_sem ↓] uz17 Go.wp_at_zero Go.wp_at_succ
attribute [local go_sem] uz18
theorem tr_new2(w:World):Tr ((w.alloc (.cells #[.slice none 0 0] 103)).alloc (.cells #[.slice none 0 0] 103)) (w.heap.size+1) (.slice none 0 0) []:=by
 have h:=Tr.new (w.alloc (.cells #[.slice none 0 0] 103))
 have e:(w.alloc (.cells #[.slice none 0 0] 103)).heap.size=w.heap.size+1:=by simp
 rwa [e]at h
end
section
attribute [local go_sem] uz8
attribute [local go_sem ↓] uz17 Go.wp_at_zero Go.wp_at_succ
attribute [local go_sem] uz18
theorem Tr.apart{w:World}{t t':Nat}{v v':Value}{xs ys:List (Int×Int)}(h:Tr w t v xs)(k:Tr w t' v' ys)(ne:t≠t'):∀b,Own t v b→¬b=t':=by
 rintro b (rfl|hb) e
 ·exact ne e
 ·subst e
  rcases h.row.2 with ⟨rfl,-⟩|⟨g,cap,cur,rfl,-,hg,-⟩
  ·cases hb
  ·have d:g=b:=Option.some.inj hb;subst d;rw[k.cell]at hg
   injection hg with hg
   injection hg with _ e2 _
   exact absurd e2 (by decide)
theorem Ev.gr{w w':World}{p:Option Addr}{xs:List (Int×Int)}(h:Ev w p xs)(k:Gr w w'):Ev w' p xs:=h.kept (Kp.gr k fun _=>False) fun _ _ h=>h
theorem sameevT{w:World}{p q:Option Addr}{c d n:Nat}{xs:List (Int×Int)}(hp:Ev w p xs)(hq:Ev w q xs)(hl:xs.length=n)(hn:n≤1000000):Cg 39 #[.slice p n c,.slice q n d] w (.bool true):=by
 subst hl;refine(sameev_any w p q xs xs c d hp hq (by omega) (by omega)).mono ?_;rintro e h ⟨f,m,rfl⟩;exact⟨by rw[f];simp,(Gr.refl w).drewN m⟩
theorem ixs_count(i:Nat)(hi:i<16):(ixs 16).countP (fun e=>decide (e=(2,(i:Int))))=1:=by
 obtain rfl|rfl|rfl|rfl|rfl|rfl|rfl|rfl|rfl|rfl|rfl|rfl|rfl|rfl|rfl|rfl:i=0∨i=1∨i=2∨i=3∨i=4∨i=5∨i=6∨i=7∨i=8∨i=9∨i=10∨i=11∨i=12∨i=13∨i=14∨i=15:=by omega
 all_goals decide +kernel
theorem rpx_count(i:Nat)(hi:i<16):∀m,(rpx m).countP (fun e=>decide (e=(2,(i:Int))))=m
 | 0=>rfl
 | m+1=>by rw[rpx,List.countP_append,rpx_count i hi m,ixs_count i hi]
theorem take_count{xs:List (Int×Int)}{p:Int×Int→Bool}{j:Nat}{e:Int×Int}(h:xs[j]? = some e):(xs.take (j+1)).countP p=(xs.take j).countP p+if p e then 1 else 0:=by
 rw[List.take_add_one,h,List.countP_append];simp[List.countP_cons]
theorem lqblind_any(id:Int)(a b:Nat)(la:a<M)(lb:b<M)(n1 n2:Nat)(bn1:n1<18446744073709551616)(bn2:n2<18446744073709551616)(w:World):Cg 7 #[.int .i64 id,.agg (nw 9 a),.agg (nw 9 b),.int .u64 n1,.int .u64 n2] w (.bool true):=by
 obtain⟨u,hu,aP,hk⟩:=idx_conv id;have aA:=idx_bd id;obtain⟨k,aB⟩:=exl (idx id);rw[aB]at hk aA;obtain⟨Z,h2⟩:=aA
 have u0:(0:Int)≤u:=by omega
 have aQ:(1:Int)+u%15=k:=by omega
 have aR:IntKind.i64.wrap ((u:Int)%15)=(u:Int)%15:=by rw[IntKind.wrap_i64];omega
 have aS:IntKind.u64.wrap ((u:Int)%15)=(u:Int)%15:=by rw[IntKind.wrap_u64];omega
 have aT:(u:Int).tmod 15=(u:Int)%15:=by rw[Int.tmod_eq_emod_of_nonneg (by omega)]
 have k0:(1:Int)≤k:=by omega
 have k1:(k:Int)≤15:=by omega
 have aU:id%18446744073709551616=(u:Int):=by rw[←hu,IntKind.wrap_u64]
 clear aB hk;have aC:Hid (∀w,Calls prog 16 #[.int .i64 k] w (GetQ k w)):=fun w=>getq_yes k Z h2 w;have aD:Hid (∀w,Cg 34 #[] w (.bool true)):=fun w=>awake18_any w
 go_enter func7,ntmps7
 go_upto_region 1 with fail
 refine gen_w (fun v=>Hid (Gr w v∧Vr v (w.heap.size) (nw 9 a)∧Vr v (w.heap.size+1) (nw 9 b))) ⟨grA,vrA,vrA⟩ ?_;intro u0 HV
 go_upto_region 4 with (first
  | (go_at_call 34;refine(aD.out _).mono ?_;rintro e WA ⟨rfl,GA⟩)
  | (go_at_call 16;refine(aC.out _).mono ?_;rintro e WB ⟨J,rfl,W,GB⟩))
 obtain⟨e9,av⟩:=exl (WB.heap.size);simp only[av]
 refine gen_w (fun v=>Gr w v∧Vr v e9 (crA (k:Int) (nN k) J)∧(∀j,Sl v (J j).1 (nN k j))∧Vr v (w.heap.size) (nw 9 a)∧Vr v (w.heap.size+1) (nw 9 b)) ?_ ?_
 ·subst av;have g1:Gr WB (WB.alloc (.cells (crA (k:Int) (nN k) J) 27)):=(Gr.refl _).alloc _;obtain⟨G,c0,c1⟩:=HV.out;have g2:=(GA.trans GB).trans g1;exact⟨G.trans g2,Vr.new _ _ _,fun j=>(W j).gr g1,c0.gr g2,c1.gr g2⟩
 clear av GA GB W aD aC hu aP aQ aR aS aT aU u0 k0 k1 HV;rintro v0 ⟨G,X,W,c0,c1⟩;have aE:n1<M:=lt_M _ bn1
 have aG:dl n1≤400:=by have:=dl_M n1 aE;omega
 have aH:n2<M:=lt_M _ bn2
 have aI:dl n2≤400:=by have:=dl_M n2 aH;omega
 have aV:dl a≤1000:=by have:=dl_M a la;omega
 have aW:dl b≤1000:=by have:=dl_M b lb;omega
 have aJ:dl (oN k)≤1000:=by have:=oN_dl k;omega
 have aj:0<oN k:=by have:=EC.oN_pos k Z h2;omega
 obtain⟨P,hP⟩:=exl (mlQ k n1 (gQ k));have oP:OnQ k P:=hP▸mlQ_on Z h2 _ (gQ_on Z h2);obtain⟨Q,hQ⟩:=exl (mlQ k n2 (gQ k));have oQ:OnQ k Q:=hQ▸mlQ_on Z h2 _ (gQ_on Z h2);obtain⟨x,dx⟩:=exl (a%oN k);obtain⟨y,dy⟩:=exl (b%oN k);have qx:x<oN k:=dx▸Nat.mod_lt _ aj;have qy:y<oN k:=dy▸Nat.mod_lt _ aj;obtain⟨A,hA⟩:=exl (mlQ k x P);obtain⟨B,hB⟩:=exl (mlQ k y Q);obtain⟨bn,aw⟩:=exl (bl (oN k));obtain⟨m,hm⟩:=exl (mnN 4 bn)
 have aK:evN k=rpx m:=by unfold evN;rw[aw,hm]
 obtain⟨n,hn⟩:=exl ((evN k).length);have hl:=hn;have bd:bn≤576:=aw▸bl_576 _ (oN_bd k)
 have be:m=(bn+3)/4:=by rw[←hm];rfl
 have hb:n≤1000000:=by rw[←hn,aK,rpx_length];omega
 have HC:Hid (∀i:Nat,i<16→(evN k).countP (fun e=>decide (e=(2,(i:Int))))=m):=fun i hi=>by rw[aK];exact rpx_count i hi m
 refine wp_wS [.T,.F] [] ⟨⟩ fun bf v1 C h4=>?_;simp only[fzw];clear h4;have K:=C;clear C
 go_upto_region 6 with fail
 refine wp_v true [.N a,.n (a),.c (pv e9 4),.c (.slice (J 3).1 (dl (oN k)) (J 3).2),.n (x),.N x,.N b,.n (b),.c (pv e9 4),.c (.slice (J 3).1 (dl (oN k)) (J 3).2),.n (y),.N y,.a,.a,.u,.u] [0,1,3,4,5,6,7,9,10,11] [⟨12,14,33,nw 9 0,fun _=>nw 9 x⟩,⟨13,15,33,nw 9 0,fun _=>nw 9 y⟩] ⟨.g 33 0 (c0.gr K) rfl,.k _ fun q vv C D=>RtW.of_n (fm_any la),.o 25 4 (X.gr K) rfl rfl,.k (fun q =>#[.slice (q 1 0).1 (dl (a)) (q 1 0).2,.slice (J 3).1 (dl (oN k)) (J 3).2]) fun q vv C D=>RtW.of_n (Rt.n (dx▸rmod_any a (oN k) _ _ _ _ _ (D 1 rfl) ((W 3).gr (K.trans C)) aV aJ aj)),.k (fun q =>#[.slice (q 4 0).1 (dl (x)) (q 4 0).2]) fun q vv C D=>RtW.of_c (nt_any (D 4 rfl)),.g 33 0 (c1.gr K) rfl,.k _ fun q vv C D=>RtW.of_n (fm_any lb),.o 25 4 (X.gr K) rfl rfl,.k (fun q =>#[.slice (q 7 0).1 (dl (b)) (q 7 0).2,.slice (J 3).1 (dl (oN k)) (J 3).2]) fun q vv C D=>RtW.of_n (Rt.n (dy▸rmod_any b (oN k) _ _ _ _ _ (D 7 rfl) ((W 3).gr (K.trans C)) aW aJ aj)),.k (fun q =>#[.slice (q 10 0).1 (dl (y)) (q 10 0).2]) fun q vv C D=>RtW.of_c (nt_any (D 10 rfl)),⟨⟩⟩ ⟨.k zNat ⟨fkc,fkn bNat,fkc,fkc,fkn bNat,fkc,fkc,fkn bNat,fkc,fkc,fkn bNat,fkc,fka,fka,fku,fku,trivial⟩,.k zNat ⟨fkc,fkn bNat,fkc,fkc,fkn bNat,fkc,fkc,fkn bNat,fkc,fkc,fkn bNat,fkc,fka,fka,fku,fku,trivial⟩,⟨⟩⟩ fun ak v2 C h6 a0=>?_;simp only[fzw,Kw.a];obtain⟨⟨a1,L⟩,⟨a2,S⟩,-⟩:(v1.heap.size≤(ak 12 0).2∧Vr v2 (ak 12 0).2 (nw 9 x))∧(v1.heap.size≤(ak 13 0).2∧Vr v2 (ak 13 0).2 (nw 9 y))∧True:=a0;clear h6;replace K:=K.trans C;clear C
 go_upto_region 7 with fail
 refine wp_v true [.c (.agg (crA (k:Int) (nN k) J)),.c (.int .u64 n1),.N n1,.n (n1),.c (.agg (crA (k:Int) (nN k) J)),.pt (xN k) (yN k) false,.pt (P.1) (P.2.1) P.2.2,.c (.agg (pnQ P)),.a,.u] [0,2,3,4,5,6,7] [⟨8,9,35,pnt 0 0 false,fun _=>pnQ P⟩] ⟨.g 27 0 (X.gr K) rfl,.z (one_any _ bn1),.k _ fun q vv C D=>RtW.of_n (fm_any aE),.g 27 0 (X.gr K) rfl,.k _ fun q vv C D=>RtW.of_pt (rg_any J _ (fun j=>(W j).gr (K.trans C))),.k (fun q =>#[.agg (crA (k:Int) (nN k) J),.slice (q 3 0).1 (dl (n1)) (q 3 0).2,.agg (ptA (q 5 0).1 (xN k) (q 5 0).2 (q 5 1).1 (yN k) (q 5 1).2 false)]) fun q vv C D=>RtW.of_pt (hP▸rtimesQ k Z h2 J (gQ_on Z h2) aG (fun j=>(W j).gr (K.trans C)) (D 3 rfl) (D 5 rfl).1 (D 5 rfl).2),.k (fun q =>#[.agg (ptA (q 6 0).1 (P.1) (q 6 0).2 (q 6 1).1 (P.2.1) (q 6 1).2 P.2.2)]) fun q vv C D=>RtW.of_c (Rt.c (rout_any _ _ _ _ _ _ _ _ (D 6 rfl).1 (D 6 rfl).2)),⟨⟩⟩ ⟨.k zPnt ⟨fkc,fkc,fkc,fkn bPnt,fkc,fkp bPnt,fkp bPnt,fkc,fka,fku,trivial⟩,⟨⟩⟩ fun aL v3 C h7 a3=>?_;simp only[fzw,Kw.a];obtain⟨⟨a7,Y⟩,-⟩:(v2.heap.size≤(aL 8 0).2∧Vr v3 (aL 8 0).2 (pnQ P))∧True:=a3;clear h7;replace K:=K.trans C;have g7:=C;clear C
 go_upto_region 8 with fail
 refine wp_v true [.c (.agg (crA (k:Int) (nN k) J)),.c (.int .u64 n2),.N n2,.n (n2),.c (.agg (crA (k:Int) (nN k) J)),.pt (xN k) (yN k) false,.pt (Q.1) (Q.2.1) Q.2.2,.c (.agg (pnQ Q)),.a,.u] [0,2,3,4,5,6,7] [⟨8,9,35,pnt 0 0 false,fun _=>pnQ Q⟩] ⟨.g 27 0 (X.gr K) rfl,.z (one_any _ bn2),.k _ fun q vv C D=>RtW.of_n (fm_any aH),.g 27 0 (X.gr K) rfl,.k _ fun q vv C D=>RtW.of_pt (rg_any J _ (fun j=>(W j).gr (K.trans C))),.k (fun q =>#[.agg (crA (k:Int) (nN k) J),.slice (q 3 0).1 (dl (n2)) (q 3 0).2,.agg (ptA (q 5 0).1 (xN k) (q 5 0).2 (q 5 1).1 (yN k) (q 5 1).2 false)]) fun q vv C D=>RtW.of_pt (hQ▸rtimesQ k Z h2 J (gQ_on Z h2) aI (fun j=>(W j).gr (K.trans C)) (D 3 rfl) (D 5 rfl).1 (D 5 rfl).2),.k (fun q =>#[.agg (ptA (q 6 0).1 (Q.1) (q 6 0).2 (q 6 1).1 (Q.2.1) (q 6 1).2 Q.2.2)]) fun q vv C D=>RtW.of_c (Rt.c (rout_any _ _ _ _ _ _ _ _ (D 6 rfl).1 (D 6 rfl).2)),⟨⟩⟩ ⟨.k zPnt ⟨fkc,fkc,fkc,fkn bPnt,fkc,fkp bPnt,fkp bPnt,fkc,fka,fku,trivial⟩,⟨⟩⟩ fun aM V C h8 a4=>?_;simp only[fzw,Kw.a];obtain⟨⟨a8,af⟩,-⟩:(v3.heap.size≤(aM 8 0).2∧Vr V (aM 8 0).2 (pnQ Q))∧True:=a4;clear h8;replace K:=K.trans C;replace g7:=g7.trans C;have g8:=C;clear C;replace G:=G.trans K;replace X:=X.gr K;replace c0:=c0.gr K;replace c1:=c1.gr K;replace W:=fun k=>(W k).gr K;replace L:=L.gr g7;replace S:=S.gr g7;replace Y:=Y.gr g8;clear K g7 g8
 go_upto_region 10 with (go_at_call 27;refine(new_any _).mono ?_;rintro e w' ⟨rfl,rfl⟩)
 refine gen_w (fun v=>Gr V v∧Tr v (V.heap.size) (.slice none 0 0) []∧Tr v (V.heap.size+1) (.slice none 0 0) []) ⟨grA,(Tr.new _).gr ((Gr.refl _).alloc _),tr_new2 _⟩ ?_;rintro vr ⟨gU,U,H⟩;refine wp_x false [.c (pv (V.heap.size) 0),.c (pv e9 0),.c (.int .i64 k),.c (.agg (nw 9 x)),.c (.agg (pnQ P)),.c (.tuple #[.agg (pnQ A),.int .i64 0]),.c (.tuple #[.agg (pnQ A),.int .i64 0]),.c (.agg (pnQ A)),.c (.int .i64 0),.vt vr.heap.size (pnt 0 0 false) 35,.u,.c (.int .i64 0)] [2,3,4,9] 5 10 (fun v u=>Kp (fun b=>b<vr.heap.size) v u) (MrI vr (V.heap.size) (evN k)) (fun x v=>Kp (fun b=>b=V.heap.size) vr v∧∃z,Tr v (V.heap.size) z (evN k)∧Vr v (x 9 0).2 (pnQ A)) 30 (fun _ =>#[.pointer (some ⟨V.heap.size,0,none⟩),.int .i64 k,.agg (nw 9 x),.agg (pnQ P)]) 35 (fun x=>pv (x 9 0).2 0) (fun _=>.agg (pnQ A)) (MrI.start U) (fun _ _ _ h g=>h.gr g) ?xo5 ?xm5 ?xs5 ⟨fnc,fnc,fnc,fnc,fnc,fnc,fnc,fnc,fnc,fnvt,fnu,fnc,trivial⟩ ?xf5
 case xo5=>
  rintro _ v HI;have aa:=HI.g gU (Nat.le_refl _);refine .cons (.o 3 0 (X.gr aa) rfl rfl) ?_;refine .cons (.g 33 0 (L.gr aa) rfl) ?_;refine .cons (.g 35 0 (Y.gr aa) rfl) ?_;exact .cons (.n 35 rfl HI.k.size) .nil
 case xm5=>exact fun _ _ HI _=>HI.mul U.lt fun hT=>mulR Z h2 (P:=P) oP (d:=x) qx (Q:=A) hA hT
 case xs5=>
  rintro x v HI hy;obtain⟨hN,D⟩:=hy 9 (by kernel_rfl);have HT:=(vr_vt D).h;have FT:=(vr_vt D).f;exact⟨setBlk v _ (pnQ A),by simp[go_sem,exI,HT,FT],HI.set U.lt hN D (by rw[pnt_size];decide) (by decide) _⟩
 rintro a9 ab ⟨ax,bg,aq,bh⟩;simp only[fzw,Kw.vt];replace gU:=gr_kp gU ax (fun b hb e=>by have e:b=V.heap.size:=e;omega);replace H:=H.kept ax (H.apart U (by omega));replace U:=aq;clear aq ax
 go_upto_region 11 with fail
 refine wp_x false [.c (pv (V.heap.size+1) 0),.c (pv e9 0),.c (.int .i64 k),.c (.agg (nw 9 y)),.c (.agg (pnQ Q)),.c (.tuple #[.agg (pnQ B),.int .i64 0]),.c (.tuple #[.agg (pnQ B),.int .i64 0]),.c (.agg (pnQ B)),.c (.int .i64 0),.vt ab.heap.size (pnt 0 0 false) 35,.u,.c (.int .i64 0)] [2,3,4,9] 5 10 (fun v u=>Kp (fun b=>b<ab.heap.size) v u) (MrI ab (V.heap.size+1) (evN k)) (fun x v=>Kp (fun b=>b=V.heap.size+1) ab v∧∃z,Tr v (V.heap.size+1) z (evN k)∧Vr v (x 9 0).2 (pnQ B)) 30 (fun _ =>#[.pointer (some ⟨V.heap.size+1,0,none⟩),.int .i64 k,.agg (nw 9 y),.agg (pnQ Q)]) 35 (fun x=>pv (x 9 0).2 0) (fun _=>.agg (pnQ B)) (MrI.start H) (fun _ _ _ h g=>h.gr g) ?xo6 ?xm6 ?xs6 ⟨fnc,fnc,fnc,fnc,fnc,fnc,fnc,fnc,fnc,fnvt,fnu,fnc,trivial⟩ ?xf6
 case xo6=>
  rintro _ v HI;have aa:=HI.g gU (Nat.le_succ _);refine .cons (.o 3 0 (X.gr aa) rfl rfl) ?_;refine .cons (.g 33 0 (S.gr aa) rfl) ?_;refine .cons (.g 35 0 (af.gr aa) rfl) ?_;exact .cons (.n 35 rfl HI.k.size) .nil
 case xm6=>exact fun _ _ HI _=>HI.mul H.lt fun hT=>mulR Z h2 (P:=Q) oQ (d:=y) qy (Q:=B) hB hT
 case xs6=>
  rintro x v HI hy;obtain⟨hN,D⟩:=hy 9 (by kernel_rfl);have HT:=(vr_vt D).h;have FT:=(vr_vt D).f;exact⟨setBlk v _ (pnQ B),by simp[go_sem,exI,HT,FT],HI.set H.lt hN D (by rw[pnt_size];decide) (by decide) _⟩
 rintro ba ar ⟨ay,a5,au,bi⟩;simp only[fzw,Kw.vt];replace gU:=gr_kp gU ay (fun b hb e=>by have e:b=V.heap.size+1:=e;omega);replace U:=U.kept ay (U.apart H (by omega));replace H:=au;clear au ay;replace G:=G.trans gU;replace X:=X.gr gU;replace c0:=c0.gr gU;replace c1:=c1.gr gU;replace L:=L.gr gU;replace S:=S.gr gU;replace Y:=Y.gr gU;replace af:=af.gr gU;replace W:=fun k=>(W k).gr gU;clear gU;have aO:Hid (Calls prog 37 #[.pointer (some ⟨V.heap.size,0,none⟩)] ar fun e w'=>∃p c,e=.returned (.slice p n c)∧Ev w' p (evN k)∧Gr ar w'):=(evT U hl hb).mono fun _ _ ⟨y,e,h,g⟩=>⟨_,_,e,h,g⟩
 go_upto_region 13 with (go_at_call 37;refine aO.out.mono ?_;rintro e I ⟨pe,ce,rfl,hE,ag⟩)
 have HV:Hid (Gr w I∧Vr I e9 (crA (k:Int) (nN k) J)∧(∀j,Sl I (J j).1 (nN k j))∧Tr I (V.heap.size+1) a5 (evN k)):=⟨G.trans ag,X.gr ag,fun j=>(W j).gr ag,H.gr ag⟩;have HE:Hid (Ev I pe (evN k)):=hE;have HB:Hid (Calls prog 38 #[.slice (J 3).1 (dl (oN k)) (J 3).2] I fun e w'=>e=.returned (.int .i64 bn)∧w'=I):=aw▸rbits_any (oN k) _ _ I (HV.out.2.2.1 3) (by omega);clear G X W H U hE ag aO
 go_wp2_with fail
 go_loopw [24] (fun ia wr=>∃i:Nat,ia=.int .i64 i∧Hu (i≤16)∧I=wr) (fun ia _=>16-(intOf ia).toNat)
 case atStart=>exact⟨0,rfl,fun _=>by decide,rfl⟩
 case round=>
  obtain⟨i,rfl,HI,rfl⟩:=hrel
  have i0:(0:Int)≤i:=by omega
  by_cases hi:i<16
  ·have i1:(i:Int)<16:=by omega
   have ao:Hid ((evN k).countP (fun e=>decide (e=(2,(i:Int))))=m):=HC.out i hi
   go_wp2_with fail
   go_loopw [25,26] (fun ca ja wr=>∃(c j:Nat),ca=.int .i64 c∧ja=.int .i64 j∧Hu (j≤n∧((evN k).take j).countP (fun e=>decide (e=(2,(i:Int))))=c)∧I=wr) (fun _ ja _=>n-(intOf ja).toNat)
   case atStart=>exact⟨0,0,rfl,rfl,fun _=>⟨Nat.zero_le _,rfl⟩,rfl⟩
   case round=>
    obtain⟨c,j,rfl,rfl,HJ,rfl⟩:=hrel
    have j0:(0:Int)≤j:=by omega
    by_cases hlt:j<n
    ·have j1:(j:Int)<n:=by omega
     have ac:j<(evN k).length:=by omega
     obtain⟨⟨e1,e2⟩,ah⟩:∃x,(evN k)[j]? = some x:=⟨_,List.getElem?_eq_getElem ac⟩;have az:=(HJ.out ()).2
     have bj:c≤j:=by rw[←az];exact Nat.le_trans (List.countP_le_length ..) (by rw[List.length_take];omega)
     have ai:=take_count (p:=fun e=>decide (e=(2,(i:Int)))) ah;rw[az]at ai
     clear HJ az
     ·skip
      obtain⟨bb,o,rfl,bk,hc⟩:∃b o,pe=some ⟨b,o,none⟩∧b<I.heap.size∧∀i k' a,(evN k)[i]? = some (k',a)→I.cell? ⟨b,o+i*2,none⟩=some (.int .i64 k')∧I.cell? ⟨b,o+i*2+1,none⟩=some (.int .i64 a):=by
       rcases HE.out with h|h
       ·rw[h]at ac;simp at ac
       ·exact h
      obtain⟨bm,bo⟩:=hc j e1 e2 ah
      by_cases hab:e1=2∧e2=(i:Int)
      ·obtain⟨rfl,rfl⟩:=hab
       have ap:((evN k).take (j+1)).countP (fun e=>decide (e=(2,(i:Int))))=c+1:=by rw[ai];simp
       clear hc HV HE HB ao ah ac HC
       go_wp2_with fail
       go_roundw
       case rel=>exact⟨c+1,j+1,by go_num,by go_num,fun _=>⟨hlt,ap⟩,trivial⟩
       case measure=>simp[intOf];omega
      ·have ap:((evN k).take (j+1)).countP (fun e=>decide (e=(2,(i:Int))))=c:=by
        rw[ai,if_neg]
        ·rfl
        ·simp only[Prod.mk.injEq,decide_eq_true_eq];exact hab
       by_cases Z:e1=2
       ·subst Z
        have h2:(e2==(i:Int))=false:=by simpa using hab
        clear hab;clear hc HV HE HB ao ah ac HC
        go_wp2_with fail
        go_roundw
        case rel=>exact⟨c,j+1,by go_num,by go_num,fun _=>⟨hlt,ap⟩,trivial⟩
        case measure=>simp[intOf];omega
       ·have bp:(e1==2)=false:=by simpa using Z
        clear hab Z;clear hc HV HE HB ao ah ac HC
        go_wp2_with fail
        go_roundw
        case rel=>exact⟨c,j+1,by go_num,by go_num,fun _=>⟨hlt,ap⟩,trivial⟩
        case measure=>simp[intOf];omega
    ·have j1:¬(j:Int)<n:=by omega
     have hj:j=n:=by have:=(HJ.out ()).1;omega
     have hc:c=m:=by
      have h:=(HJ.out ()).2;rw[hj,←hl,List.take_length,ao.out]at h;exact h.symm
     subst hc
     have kc:I.cell? ⟨e9,4,none⟩=some (.slice (J 3).1 (dl (oN k)) (J 3).2):=by rw[HV.out.2.1.cell];rfl
     have x1:IntKind.i64.wrap ((bn:Int)+3)=(bn:Int)+3:=by rw[IntKind.wrap_i64];omega
     have x2:((bn:Int)+3).tdiv 4=(c:Int):=by rw[Int.tdiv_eq_ediv_of_nonneg (by omega)];omega
     have x3:IntKind.i64.wrap (c:Int)=c:=wiA
     have x4:¬(c:Int)<c:=by omega
     clear hj HJ
     go_wp2_with (go_at_call 38;refine HB.out.mono ?_;rintro e w' ⟨rfl,rfl⟩)
     go_roundw
     case rel=>exact⟨i+1,by go_num,fun _=>hi,trivial⟩
     case measure=>simp[intOf];omega
  ·have i1:¬(i:Int)<16:=by omega
   obtain⟨G,X,W,H⟩:=HV.out;have hE:=HE.out;clear HV HE HB HC
   go_upto_region 24 with fail
   refine wp_wS [.O,.O,.T,.T,.O,.O,.T,.T,.T,.c (.slice pe n ce),.c (pv (V.heap.size+1) 0),.ev n (evN k),.T,.T,.T] [1,5,11,12] ⟨.y (num_any _),.y (num_any _),.k _ fun q vv C D =>  ((evT (H.gr C) hl hb)),.k (fun q =>#[.slice pe n ce,.slice (q 11 0).1 n (q 11 0).2]) fun q vv C D=>RtW.of_c (Rt.c (sameevT (hE.gr C) (D 11 rfl) hl hb)),⟨⟩⟩ fun bc v5 C a6=>?_;simp only[fzw,Kw.ev];clear a6;have ae:=C;clear C;replace G:=G.trans ae;replace X:=X.gr ae;replace W:=fun k=>(W k).gr ae;replace H:=H.gr ae;replace hE:=hE.gr ae;clear ae
   go_wp2_with fail
   go_ret
   exact⟨rfl,G⟩
end
end
end Go.Proofs.YtffhepbppiocbacGreat