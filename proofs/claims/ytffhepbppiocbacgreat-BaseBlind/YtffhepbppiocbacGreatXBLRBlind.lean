import Derived.Test.YtffhepbppiocbacGreatXBQJ
namespace Go.Proofs.YtffhepbppiocbacGreat
open Go.RowKit Go.Proofs.Tryz
set_option maxRecDepth 100000
set_option maxHeartbeats 8000000
section
attribute [local go_sem ↓] uz1
attribute [local go_sem] uz2
section
attribute [local go_sem] uz8
attribute [local go_sem ↓] uz17 Go.wp_at_zero Go.wp_at_succ
attribute [local go_sem] uz18
theorem tr_new2(w:World):Tr ((w.alloc (.cells #[.slice none 0 0] 103)).alloc (.cells #[.slice none 0 0] 103)) (w.heap.size+1) (.slice none 0 0) []:=by
 have h:=Tr.new (w.alloc (.cells #[.slice none 0 0] 103))
 have e:(w.alloc (.cells #[.slice none 0 0] 103)).heap.size=w.heap.size+1:=by simp
 rwa [e]at h
end
end
section
theorem Tr.apart{w:World}{t t':Nat}{v v':Value}{xs ys:List (Int×Int)}(h:Tr w t v xs)(k:Tr w t' v' ys)(ne:t≠t'):∀b,Own t v b→¬b=t':=by
 rintro b (rfl|hb) e
 ·exact ne e
 ·subst e
  rcases h.row.2 with ⟨rfl,-⟩|⟨g,cap,cur,rfl,-,hg,-⟩
  ·cases hb
  ·have d:=Option.some.inj hb;subst d;rw[k.cell]at hg
   injection hg with hg
   injection hg with _ e2 _
   exact absurd e2 (by decide)
theorem Ev.gr{w w':World}{p:Option Addr}{xs:List (Int×Int)}(h:Ev w p xs)(k:Gr w w'):Ev w' p xs:=h.kept (Kp.gr k fun _=>False) fun _ _ h=>h
theorem sameevT{w:World}{p q:Option Addr}{c d n:Nat}{xs:List (Int×Int)}(hp:Ev w p xs)(hq:Ev w q xs)(hl:xs.length=n)(hn:n≤1000000):Cg 39 #[.slice p n c,.slice q n d] w (.bool true):=by
 subst hl;refine(sameev_any w p q xs xs c d hp hq (by omega) (by omega)).mono ?_;rintro e h ⟨f,m,rfl⟩;exact⟨by rw[f];simp,(Gr.refl w).drewN m⟩
end
section
attribute [local go_sem ↓] uz1
attribute [local go_sem] uz2
section
attribute [local go_sem] uz8
attribute [local go_sem ↓] uz17 Go.wp_at_zero Go.wp_at_succ
attribute [local go_sem] uz18
theorem lrblind_any(id:Int)(a b:Nat)(la:a<M)(lb:b<M)(w:World):Cg 13 #[.int .i64 id,.agg (nw 9 a),.agg (nw 9 b)] w (.bool true):=by
 obtain⟨u,hu,av,hk⟩:=idx_conv id;have ag:=idx_bd id;obtain⟨k,ah⟩:=exl (idx id);rw[ah]at hk ag;obtain⟨h1,h2⟩:=ag
 have u0:(0:Int)≤u:=by omega
 have aw:(1:Int)+u%15=k:=by omega
 have ax:IntKind.i64.wrap ((u:Int)%15)=(u:Int)%15:=by rw[IntKind.wrap_i64];omega
 have ay:IntKind.u64.wrap ((u:Int)%15)=(u:Int)%15:=by rw[IntKind.wrap_u64];omega
 have az:(u:Int).tmod 15=(u:Int)%15:=by rw[Int.tmod_eq_emod_of_nonneg (by omega)]
 have k0:(1:Int)≤k:=by omega
 have k1:(k:Int)≤15:=by omega
 have aA:id%18446744073709551616=(u:Int):=by rw[←hu,IntKind.wrap_u64]
 clear ah hk;have ai:Hid (∀w,Calls prog 16 #[.int .i64 k] w (GetQ k w)):=fun w=>getq_yes k h1 h2 w;have aj:Hid (∀w,Cg 47 #[] w (.bool true)):=fun w=>awake19_any w
 go_enter func13,ntmps13
 go_upto_region 1 with fail
 refine gen_w (fun v=>Hid (Gr w v∧Vr v (w.heap.size) (nw 9 a)∧Vr v (w.heap.size+1) (nw 9 b))) ⟨grA,vrA,vrA⟩ ?_;intro u0 HV
 go_upto_region 6 with (first
  | (go_at_call 47;refine(aj.out _).mono ?_;rintro e WA ⟨rfl,GA⟩)
  | (go_at_call 16;refine(ai.out _).mono ?_;rintro e WB ⟨L,rfl,W,GB⟩))
 obtain⟨e9,ae⟩:=exl (WB.heap.size);simp only[ae]
 refine gen_w (fun v=>Gr w v∧Vr v e9 (crA (k:Int) (nN k) L)∧(∀j,Sl v (L j).1 (nN k j))∧Vr v (w.heap.size) (nw 9 a)∧Vr v (w.heap.size+1) (nw 9 b)) ?_ ?_
 ·subst ae;have g1:Gr WB (WB.alloc (.cells (crA (k:Int) (nN k) L) 27)):=(Gr.refl _).alloc _;obtain⟨G,c0,c1⟩:=HV.out;have g2:=(GA.trans GB).trans g1;exact⟨G.trans g2,Vr.new _ _ _,fun j=>(W j).gr g1,c0.gr g2,c1.gr g2⟩
 clear ae GA GB W aj ai hu av aw ax ay az aA u0 k0 k1 HV;rintro v0 ⟨G,X,W,c0,c1⟩
 have aB:dl a≤1000:=by have:=dl_M a la;omega
 have aC:dl b≤1000:=by have:=dl_M b lb;omega
 have ak:dl (oN k)≤1000:=by have:=oN_dl k;omega
 have Z:0<oN k:=by have:=EC.oN_pos k h1 h2;omega
 obtain⟨x,dx⟩:=exl (a%oN k);have qx:x<oN k:=dx▸Nat.mod_lt _ Z;obtain⟨y,dy⟩:=exl (b%oN k);have qy:y<oN k:=dy▸Nat.mod_lt _ Z;obtain⟨P,hP⟩:=exl (mlQ k x (gQ k));obtain⟨Q,hQ⟩:=exl (mlQ k y (gQ k));obtain⟨bn,af⟩:=exl (bl (oN k));obtain⟨m,hm⟩:=exl (mnN 4 bn);have aM:bn≤576:=af▸bl_576 _ (oN_bd k)
 have aO:m=(bn+3)/4:=by rw[←hm];rfl
 obtain⟨n,hn⟩:=exl (16*m)
 have hl:([]++evN k).length=n:=by rw[List.nil_append,evN,af,hm,rpx_length,hn]
 have aD:(([]++evN k).length:Int)=(n:Int):=by rw[hl]
 have hb:n≤1000000:=by omega
 have aP:dl (oN k)≤400:=by have:=oN_dl k;omega
 have x1:IntKind.i64.wrap ((bn:Int)+3)=(bn:Int)+3:=by rw[IntKind.wrap_i64];omega
 have x2:((bn:Int)+3).tdiv 4=(m:Int):=by rw[Int.tdiv_eq_ediv_of_nonneg (by omega)];omega
 have x3:IntKind.i64.wrap (m:Int)=m:=wiA
 have x4:IntKind.i64.wrap (16*(m:Int))=(n:Int):=by rw[IntKind.wrap_i64];omega
 refine wp_v true [.N a,.n (a),.c (pv e9 4),.c (.slice (L 3).1 (dl (oN k)) (L 3).2),.n (x),.N x,.N b,.n (b),.c (pv e9 4),.c (.slice (L 3).1 (dl (oN k)) (L 3).2),.n (y),.N y,.a,.a,.u,.u] [0,1,3,4,5,6,7,9,10,11] [⟨12,14,33,nw 9 0,fun _=>nw 9 x⟩,⟨13,15,33,nw 9 0,fun _=>nw 9 y⟩] ⟨.g 33 0 c0 rfl,.k _ fun q S i A=>RtW.of_n (fm_any la),.o 25 4 X rfl rfl,.k (fun q =>#[.slice (q 1 0).1 (dl (a)) (q 1 0).2,.slice (L 3).1 (dl (oN k)) (L 3).2]) fun q S i A=>RtW.of_n (Rt.n (dx▸rmod_any a (oN k) _ _ _ _ _ (A 1 rfl) ((W 3).gr i) aB ak Z)),.k (fun q =>#[.slice (q 4 0).1 (dl (x)) (q 4 0).2]) fun q S i A=>RtW.of_c (nt_any (A 4 rfl)),.g 33 0 c1 rfl,.k _ fun q S i A=>RtW.of_n (fm_any lb),.o 25 4 X rfl rfl,.k (fun q =>#[.slice (q 7 0).1 (dl (b)) (q 7 0).2,.slice (L 3).1 (dl (oN k)) (L 3).2]) fun q S i A=>RtW.of_n (Rt.n (dy▸rmod_any b (oN k) _ _ _ _ _ (A 7 rfl) ((W 3).gr i) aC ak Z)),.k (fun q =>#[.slice (q 10 0).1 (dl (y)) (q 10 0).2]) fun q S i A=>RtW.of_c (nt_any (A 10 rfl)),⟨⟩⟩ ⟨.k zNat ⟨fkc,fkn bNat,fkc,fkc,fkn bNat,fkc,fkc,fkn bNat,fkc,fkc,fkn bNat,fkc,fka,fka,fku,fku,trivial⟩,.k zNat ⟨fkc,fkn bNat,fkc,fkc,fkn bNat,fkc,fkc,fkn bNat,fkc,fkc,fkn bNat,fkc,fka,fka,fku,fku,trivial⟩,⟨⟩⟩ fun aa K i h6 aE=>?_;simp only[fzw,Kw.a];obtain⟨⟨aG,I⟩,⟨aH,U⟩,-⟩:(v0.heap.size≤(aa 12 0).2∧Vr K (aa 12 0).2 (nw 9 x))∧(v0.heap.size≤(aa 13 0).2∧Vr K (aa 13 0).2 (nw 9 y))∧True:=aE;clear h6;have g6:=i;clear i;replace G:=G.trans g6;replace X:=X.gr g6;replace c0:=c0.gr g6;replace c1:=c1.gr g6;replace W:=fun k=>(W k).gr g6;clear g6
 go_upto_region 8 with (go_at_call 27;refine(new_any _).mono ?_;rintro e w' ⟨rfl,rfl⟩)
 refine gen_w (fun v=>Gr K v∧Tr v (K.heap.size) (.slice none 0 0) []∧Tr v (K.heap.size+1) (.slice none 0 0) []) ⟨grA,(Tr.new _).gr ((Gr.refl _).alloc _),tr_new2 _⟩ ?_;rintro vr ⟨D,B,C⟩;refine wp_x false [.c (pv (K.heap.size) 0),.c (pv e9 0),.c (.int .i64 k),.c (.agg (nw 9 x)),.c (.tuple #[.agg (pnQ P),.int .i64 0]),.c (.tuple #[.agg (pnQ P),.int .i64 0]),.c (.agg (pnQ P)),.c (.int .i64 0),.vt vr.heap.size (pnt 0 0 false) 35,.u,.c (.int .i64 0)] [2,3,8] 4 9 (fun v u=>Kp (fun b=>b<vr.heap.size) v u) (MrJ vr (K.heap.size) (.slice none 0 0) [] (evN k)) (fun x v=>Kp (Own (K.heap.size) (.slice none 0 0)) vr v∧∃z,Tr v (K.heap.size) z ([]++(evN k))∧Vr v (x 8 0).2 (pnQ P)) 46 (fun _ =>#[.pointer (some ⟨K.heap.size,0,none⟩),.int .i64 k,.agg (nw 9 x)]) 35 (fun x=>pv (x 8 0).2 0) (fun _=>.agg (pnQ P)) (MrJ.start B) (fun _ _ _ h g=>h.gr g) ?xo2 ?xm2 ?xs2 ⟨fnc,fnc,fnc,fnc,fnc,fnc,fnc,fnc,fnvt,fnu,fnc,trivial⟩ ?xf2
 case xo2=>
  rintro _ v V;have Y:=B.grow V.k D (Nat.le_refl _);refine .cons (.o 3 0 (X.gr Y) rfl rfl) ?_;refine .cons (.g 33 0 (I.gr Y) rfl) ?_;exact .cons (.n 35 rfl V.k.size) .nil
 case xm2=>exact fun _ _ V _=>V.mul B fun hT=>bulR h1 h2 (d:=x) qx (Q:=P) hP (by decide) hT
 case xs2=>
  rintro x v V hy;obtain⟨hN,A⟩:=hy 8 (by kernel_rfl);have HT:=(vr_vt A).h;have FT:=(vr_vt A).f;exact⟨setBlk v _ (pnQ P),by simp[go_sem,exI,HT,FT],V.set hN A (pnt_size _ _ _) _⟩
 rintro aQ ab ⟨k8,z8,ao,V8⟩;simp only[fzw,Kw.vt];replace D:=B.grow k8 D (Nat.le_refl _);replace C:=C.kept k8 (fun b hb ho=>C.apart B (by omega) b hb (own_none ho));replace B:=ao;clear ao k8
 go_upto_region 9 with fail
 refine wp_x false [.c (pv (K.heap.size+1) 0),.c (pv e9 0),.c (.int .i64 k),.c (.agg (nw 9 y)),.c (.tuple #[.agg (pnQ Q),.int .i64 0]),.c (.tuple #[.agg (pnQ Q),.int .i64 0]),.c (.agg (pnQ Q)),.c (.int .i64 0),.vt ab.heap.size (pnt 0 0 false) 35,.u,.c (.int .i64 0)] [2,3,8] 4 9 (fun v u=>Kp (fun b=>b<ab.heap.size) v u) (MrJ ab (K.heap.size+1) (.slice none 0 0) [] (evN k)) (fun x v=>Kp (Own (K.heap.size+1) (.slice none 0 0)) ab v∧∃z,Tr v (K.heap.size+1) z ([]++(evN k))∧Vr v (x 8 0).2 (pnQ Q)) 46 (fun _ =>#[.pointer (some ⟨K.heap.size+1,0,none⟩),.int .i64 k,.agg (nw 9 y)]) 35 (fun x=>pv (x 8 0).2 0) (fun _=>.agg (pnQ Q)) (MrJ.start C) (fun _ _ _ h g=>h.gr g) ?xo3 ?xm3 ?xs3 ⟨fnc,fnc,fnc,fnc,fnc,fnc,fnc,fnc,fnvt,fnu,fnc,trivial⟩ ?xf3
 case xo3=>
  rintro _ v V;have Y:=C.grow V.k D (Nat.le_succ _);refine .cons (.o 3 0 (X.gr Y) rfl rfl) ?_;refine .cons (.g 33 0 (U.gr Y) rfl) ?_;exact .cons (.n 35 rfl V.k.size) .nil
 case xm3=>exact fun _ _ V _=>V.mul C fun hT=>bulR h1 h2 (d:=y) qy (Q:=Q) hQ (by decide) hT
 case xs3=>
  rintro x v V hy;obtain⟨hN,A⟩:=hy 8 (by kernel_rfl);have HT:=(vr_vt A).h;have FT:=(vr_vt A).f;exact⟨setBlk v _ (pnQ Q),by simp[go_sem,exI,HT,FT],V.set hN A (pnt_size _ _ _) _⟩
 rintro aR aI ⟨k9,z9,ap,V9⟩;simp only[fzw,Kw.vt];replace D:=C.grow k9 D (Nat.le_succ _);replace V8:=V8.kp k9 (C.odd V8 (pnt_size _ _ _));replace B:=B.kept k9 (fun b hb ho=>B.apart C (by omega) b hb (own_none ho));replace C:=ap;clear ap k9
 go_upto_region 10 with fail
 refine wp_v true [.c (pv e9 0),.c (.int .i64 k),.N x,.c (.agg (crA (k:Int) (nN k) L)),.pt (xN k) (yN k) false,.c (.agg (pnt (xN k) (yN k) false)),.E (.agg (pnQ P)),.E (.agg (pnQ P)),.c (.agg (pnQ P)),.O,.a,.u,.O] [1,2,3,4,5,6] [⟨10,11,35,pnt 0 0 false,fun _=>pnQ P⟩] ⟨.o 3 0 (X.gr D) rfl rfl,.g 33 0 (I.gr D) rfl,.g 27 0 (X.gr D) rfl,.k _ fun q S i A=>RtW.of_pt (rg_any L _ (fun j=>(W j).gr (D.trans i))),.k (fun q =>#[.agg (ptA (q 4 0).1 (xN k) (q 4 0).2 (q 4 1).1 (yN k) (q 4 1).2 false)]) fun q S i A=>RtW.of_c (Rt.c (rout_any _ _ _ _ _ _ _ _ (A 4 rfl).1 (A 4 rfl).2)),.z (mulM h1 h2 (P:=gQ k) (gQ_on h1 h2) (d:=x) qx (Q:=P) hP),⟨⟩⟩ ⟨.k zPnt ⟨fkc,fkc,fkc,fkc,fkp bPnt,fkc,fkc,fkc,fkc,fkc,fka,fku,fkc,trivial⟩,⟨⟩⟩ fun ac v2 i aJ aq=>?_;simp only[fzw,Kw.a];obtain⟨⟨au,J⟩,-⟩:(aI.heap.size≤(ac 10 0).2∧Vr v2 (ac 10 0).2 (pnQ P))∧True:=aq;clear aJ;replace D:=D.trans i;have H:=i;clear i
 go_upto_region 11 with fail
 refine wp_w [.O,.O,.T,.T,.O,.O,.T,.T,.T,.O,.O,.T,.T,.T,.c (.agg (pnQ P)),.c (.agg (pnQ P)),.T,.T,.T,.c (pv (K.heap.size) 0),.ev n (([]++evN k)),.c (pv (K.heap.size+1) 0),.ev n (([]++evN k)),.T,.T,.T,.c (pv (K.heap.size) 0),.c (.int .i64 n),.c (pv e9 4),.c (.slice (L 3).1 (dl (oN k)) (L 3).2),.c (.int .i64 bn),.c (.int .i64 ((bn:Int)+3)),.c (.int .i64 m),.c (.int .i64 n),.T,.T,.T] [1,5,10,14,15,16,20,22,23,27,29,30,31,32,33,34] ?hs5 ?hf5
 case hs5=>
  exact⟨.y (num_any _),.y (num_any _),.y (num_any _),.g 35 0 (V8.gr H) rfl,.g 35 0 J rfl,.s (.binOp .eql 35 (.const (.agg (pnQ P))) (.const (.agg (pnQ P))) 35) rfl fun S i=>by simp[go_sem,exI,eqPn,eqN_self],.k _ fun q S i A =>  ((evT (B.gr (H.trans i)) hl hb)),.k _ fun q S i A =>  ((evT (C.gr (H.trans i)) hl hb)),.k (fun q =>#[.slice (q 20 0).1 n (q 20 0).2,.slice (q 22 0).1 n (q 22 0).2]) fun q S i A=>RtW.of_c (Rt.c (sameevT (A 20 rfl) (A 22 rfl) hl hb)),.k _ fun q S i A=>RtW.of_c (Rt.same (lenT (B.gr (H.trans i)) aD)),.o 25 4 (X.gr D) rfl rfl,.k (fun q =>#[.slice (L 3).1 (dl (oN k)) (L 3).2]) fun q S i A=>RtW.of_c (Rt.same (af▸rbits_any (oN k) _ _ _ ((W 3).gr (D.trans i)) (by omega))),.s (.binOp .add 3 (.const (.int .i64 bn)) (.const (.int .i64 3)) 3) rfl fun S i=>by simp[go_sem,exI,x1],.s (.binOp .quo 3 (.const (.int .i64 ((bn:Int)+3))) (.const (.int .i64 4)) 3) rfl fun S i=>by simp[go_sem,exI,x2,x3],.s (.binOp .mul 3 (.const (.int .i64 16)) (.const (.int .i64 m)) 3) rfl fun S i=>by simp[go_sem,exI,x4],.s (.binOp .geq 3 (.const (.int .i64 n)) (.const (.int .i64 n)) 3) rfl fun S i=>by simp[go_sem,exI],⟨⟩⟩
 intro aL v3 i aK;simp only[fzw,Kw.ev];clear aK;replace H:=H.trans i;replace D:=D.trans i;have ar:=i;clear i;replace G:=G.trans D;replace X:=X.gr D;replace c0:=c0.gr D;replace c1:=c1.gr D;replace I:=I.gr D;replace U:=U.gr D;replace W:=fun k=>(W k).gr D;replace V8:=V8.gr H;replace V9:=V9.gr H;replace B:=B.gr H;replace C:=C.gr H;replace J:=J.gr ar;clear H ar D
 go_wp2_with fail
 go_ret
 exact⟨rfl,G⟩
end
end
end Go.Proofs.YtffhepbppiocbacGreat