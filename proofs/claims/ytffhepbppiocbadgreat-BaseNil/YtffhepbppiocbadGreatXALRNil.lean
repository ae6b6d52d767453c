import Derived.Test.YtffhepbppiocbadGreatXAQK
namespace Go.Proofs.YtffhepbppiocbadGreat
open Go.RowKit Go.Proofs.Tryz
set_option maxRecDepth 100000
set_option maxHeartbeats 8000000
section
attribute [local go_sem ↓] uz1
attribute [local go_sem] uz2
section
attribute [local go_sem] uz8
attribute [local go_sem ↓] uz17 Go.wp_at_zero Go.wp_at_succ
attribute [local go_sem] uz18
theorem lrnil_any(id:Int)(a:Nat)(la:a<M)(w:World):Cg 4 #[.int .i64 id,.agg (nw 9 a)] w (.bool true):=by
 obtain⟨u,hu,ax,hk⟩:=idx_conv id;have ag:=idx_bd id;obtain⟨k,ah⟩:=exl (idx id);rw[ah]at hk ag;obtain⟨h1,h2⟩:=ag
 have u0:(0:Int)≤u:=by omega
 have ay:(1:Int)+u%15=k:=by omega
 have az:IntKind.i64.wrap ((u:Int)%15)=(u:Int)%15:=by rw[IntKind.wrap_i64];omega
 have aA:IntKind.u64.wrap ((u:Int)%15)=(u:Int)%15:=by rw[IntKind.wrap_u64];omega
 have aB:(u:Int).tmod 15=(u:Int)%15:=by rw[Int.tmod_eq_emod_of_nonneg (by omega)]
 have k0:(1:Int)≤k:=by omega
 have k1:(k:Int)≤15:=by omega
 have aC:id%18446744073709551616=(u:Int):=by rw[←hu,IntKind.wrap_u64]
 clear ah hk;have ai:Hid (∀w,Calls prog 10 #[.int .i64 k] w (GetQ k w)):=fun w=>getq_yes k h1 h2 w;have aj:Hid (∀w,Cg 9 #[] w (.bool true)):=fun w=>awake19_any w
 go_enter func4,ntmps4
 go_upto_region 1 with fail
 refine gen_w (fun v=>Hid (Gr w v∧Vr v (w.heap.size) (nw 9 a))) ⟨grA,vrA⟩ ?_;intro u0 HV
 go_upto_region 6 with (first
  | (go_at_call 9;refine(aj.out _).mono ?_;rintro e WA ⟨rfl,GA⟩)
  | (go_at_call 10;refine(ai.out _).mono ?_;rintro e WB ⟨S,rfl,X,GB⟩))
 obtain⟨e9,ae⟩:=exl (WB.heap.size);simp only[ae]
 refine gen_w (fun v=>Gr w v∧Vr v e9 (crA (k:Int) (nN k) S)∧(∀j,Sl v (S j).1 (nN k j))∧Vr v (w.heap.size) (nw 9 a)) ?_ ?_
 ·subst ae;have g1:Gr WB (WB.alloc (.cells (crA (k:Int) (nN k) S) 30)):=(Gr.refl _).alloc _;obtain⟨G,c0⟩:=HV.out;have g2:=(GA.trans GB).trans g1;exact⟨G.trans g2,Vr.new _ _ _,fun j=>(X j).gr g1,c0.gr g2⟩
 clear ae GA GB X aj ai hu ax ay az aA aB aC u0 k0 k1 HV;rintro v0 ⟨G,W,X,c0⟩
 have aD:dl a≤1000:=by have:=dl_M a la;omega
 have aE:dl (oN k)≤1000:=by have:=oN_dl k;omega
 have ak:0<oN k:=by have:=EC.oN_pos k h1 h2;omega
 obtain⟨x,dx⟩:=exl (a%oN k);have qx:x<oN k:=dx▸Nat.mod_lt _ ak;obtain⟨P,hP⟩:=exl (mlQ k x (gQ k));obtain⟨R,hR⟩:=exl (mlQ k 1 (gQ k));obtain⟨n,hn⟩:=exl ((evN k).length)
 have ao:(([]++evN k).length:Int)=(n:Int):=by rw[List.nil_append,hn]
 have nb:n≤100000:=by
  have:=bl_576 _ (oN_bd k);rw[←hn,evN,rpx_length];unfold mnN
  omega
 have l1:1<oN k:=by have:=oN_g3 k h1 h2;omega
 obtain⟨m,hm⟩:=exl (2*n)
 have aG:((([]++evN k)++evN k).length:Int)=(m:Int):=by rw[List.nil_append,List.length_append,hn,←hm];omega
 have hw:IntKind.i64.wrap (2*(n:Int))=(m:Int):=by rw[IntKind.wrap_i64];omega
 have n0:0<n:=by rw[←hn];exact evN_pos k h1 h2
 refine wp_v true [.N a,.n (a),.c (pv e9 4),.c (.slice (S 3).1 (dl (oN k)) (S 3).2),.n (x),.N x,.a,.u] [0,1,3,4,5] [⟨6,7,25,nw 9 0,fun _=>nw 9 x⟩] ⟨.g 25 0 c0 rfl,.k _ fun J U i H=>RtW.of_n (fm_any la),.o 28 4 W rfl rfl,.k (fun J =>#[.slice (J 1 0).1 (dl (a)) (J 1 0).2,.slice (S 3).1 (dl (oN k)) (S 3).2]) fun J U i H=>RtW.of_n (Rt.n (dx▸rmod_any a (oN k) _ _ _ _ _ (H 1 rfl) ((X 3).gr i) aD aE ak)),.k (fun J =>#[.slice (J 4 0).1 (dl (x)) (J 4 0).2]) fun J U i H=>RtW.of_c (nt_any (H 4 rfl)),⟨⟩⟩ ⟨.k zNat ⟨fkc,fkn bNat,fkc,fkc,fkn bNat,fkc,fka,fku,trivial⟩,⟨⟩⟩ fun ap D i h6 aH=>?_;simp only[fzw,Kw.a];obtain⟨⟨aP,I⟩,-⟩:(v0.heap.size≤(ap 6 0).2∧Vr D (ap 6 0).2 (nw 9 x))∧True:=aH;clear h6;have g6:=i;clear i;replace G:=G.trans g6;replace W:=W.gr g6;replace c0:=c0.gr g6;replace X:=fun k=>(X k).gr g6;clear g6
 go_upto_region 8 with (go_at_call 20;refine(new_any _).mono ?_;rintro e w' ⟨rfl,rfl⟩)
 refine gen_w (fun v=>Gr D v∧Tr v (D.heap.size) (.slice none 0 0) []) ⟨grA,Tr.new _⟩ ?_;rintro vr ⟨C,q⟩;refine wp_x false [.c (pv (D.heap.size) 0),.c (pv e9 0),.c (.int .i64 k),.c (.agg (nw 9 x)),.c (.tuple #[.agg (pnQ P),.int .i64 0]),.c (.tuple #[.agg (pnQ P),.int .i64 0]),.c (.agg (pnQ P)),.c (.int .i64 0),.vt vr.heap.size (pnt 0 0 false) 38,.u,.c (.int .i64 0)] [2,3,8] 4 9 (fun v u=>Kp (fun b=>b<vr.heap.size) v u) (MrJ vr (D.heap.size) (.slice none 0 0) [] (evN k)) (fun x v=>Kp (Own (D.heap.size) (.slice none 0 0)) vr v∧∃z,Tr v (D.heap.size) z ([]++(evN k))∧Vr v (x 8 0).2 (pnQ P)) 15 (fun _ =>#[.pointer (some ⟨D.heap.size,0,none⟩),.int .i64 k,.agg (nw 9 x)]) 38 (fun x=>pv (x 8 0).2 0) (fun _=>.agg (pnQ P)) (MrJ.start q) (fun _ _ _ h g=>h.gr g) ?xo2 ?xm2 ?xs2 ⟨fnc,fnc,fnc,fnc,fnc,fnc,fnc,fnc,fnvt,fnu,fnc,trivial⟩ ?xf2
 case xo2=>
  rintro _ v K;have Y:=q.grow K.k C (Nat.le_refl _);refine .cons (.o 3 0 (W.gr Y) rfl rfl) ?_;refine .cons (.g 25 0 (I.gr Y) rfl) ?_;exact .cons (.n 38 rfl K.k.size) .nil
 case xm2=>exact fun _ _ K _=>K.mul q fun hT=>bulR h1 h2 (d:=x) qx (Q:=P) hP (by decide) hT
 case xs2=>
  rintro x v K hy;obtain⟨hN,H⟩:=hy 8 (by kernel_rfl);have HT:=(vr_vt H).h;have FT:=(vr_vt H).f;exact⟨setBlk v _ (pnQ P),by simp[go_sem,exI,HT,FT],K.set hN H (pnt_size _ _ _) _⟩
 rintro aU aV ⟨k8,z8,aq,V8⟩;simp only[fzw,Kw.vt];replace C:=q.grow k8 C (Nat.le_refl _);replace q:=aq;clear aq k8
 go_upto_region 9 with fail
 refine wp_wS [.c (pv (D.heap.size) 0),.c (.int .i64 n),.c (.int .i64 n)] [1] ⟨.k _ fun J U i H=>RtW.of_c (Rt.same (lenT (q.gr i) ao)),⟨⟩⟩ fun aW v2 i h9=>?_;simp only[fzw];clear h9;replace C:=C.trans i;have Z:=i;clear i
 go_upto_region 10 with fail
 refine wp_v false [.c (pv e9 0),.c (.int .i64 k),.N x,.E (.agg (pnQ P)),.E (.agg (pnQ P)),.c (.agg (pnQ P)),.O,.a,.u,.O] [1,2,3] [⟨7,8,38,pnt 0 0 false,fun _=>pnQ P⟩] ⟨.o 3 0 (W.gr C) rfl rfl,.g 25 0 (I.gr C) rfl,.z (bulM h1 h2 (d:=x) qx (Q:=P) hP),⟨⟩⟩ ⟨.k zPnt (.t rfl),⟨⟩⟩ fun aa v3 i aI ar=>?_;simp only[fzw,Kw.a];obtain⟨⟨aJ,B⟩,-⟩:(v2.heap.size≤(aa 7 0).2∧Vr v3 (aa 7 0).2 (pnQ P))∧True:=ar;clear aI;replace Z:=Z.trans i;replace C:=C.trans i;clear i
 go_upto_region 11 with fail
 refine wp_v true [.c (pv (D.heap.size) 0),.c (pv e9 0),.c (.int .i64 k),.c (pv e9 4),.c (.slice (S 3).1 (dl (oN k)) (S 3).2),.N (oN k),.c (.tuple #[.agg (pnt 0 0 false),.int .i64 1901]),.c (.tuple #[.agg (pnt 0 0 false),.int .i64 1901]),.c (.agg (pnt 0 0 false)),.c (.int .i64 1901),.a,.u,.c (.int .i64 1901)] [2,4,5,6] [⟨10,11,38,pnt 0 0 false,fun _=>pnt 0 0 false⟩] ⟨.o 3 0 (W.gr C) rfl rfl,.o 28 4 (W.gr C) rfl rfl,.k (fun J =>#[.slice (S 3).1 (dl (oN k)) (S 3).2]) fun J U i H=>RtW.of_c (nt_any ((X 3).gr (C.trans i))),.z (bmul_big h1 h2 (d:=(oN k)) (oN_bd k) (Nat.le_refl _) (.pointer (some ⟨D.heap.size,0,none⟩))),⟨⟩⟩ ⟨.k zPnt (.t rfl),⟨⟩⟩ fun ab v4 i aK au=>?_;simp only[fzw,Kw.a];obtain⟨⟨aw,A⟩,-⟩:(v3.heap.size≤(ab 10 0).2∧Vr v4 (ab 10 0).2 (pnt 0 0 false))∧True:=au;clear aK;replace Z:=Z.trans i;replace C:=C.trans i;have af:=i;clear i
 go_upto_region 12 with fail
 refine wp_wS [.c (pv (D.heap.size) 0),.c (.int .i64 n),.c (.int .i64 n)] [1] ⟨.k _ fun J U i H=>RtW.of_c (Rt.same (lenT (q.gr (Z.trans i)) ao)),⟨⟩⟩ fun aQ v5 i aL=>?_;simp only[fzw];clear aL;replace af:=af.trans i;replace Z:=Z.trans i;replace C:=C.trans i;have aM:=i;clear i;replace V8:=V8.gr Z;replace B:=B.gr af;replace A:=A.gr aM;replace q:=q.gr Z
 go_upto_region 13 with fail
 refine wp_x true [.c (pv (D.heap.size) 0),.c (pv e9 0),.c (.int .i64 k),.c (.agg (nw 9 1)),.c (.tuple #[.agg (pnQ R),.int .i64 0]),.c (.tuple #[.agg (pnQ R),.int .i64 0]),.c (.agg (pnQ R)),.c (.int .i64 0),.vt v5.heap.size (pnt 0 0 false) 38,.u,.c (.int .i64 0)] [2,3,8] 4 9 (fun v u=>Kp (fun b=>b<v5.heap.size) v u) (MrJ v5 (D.heap.size) z8 ([]++(evN k)) (evN k)) (fun x v=>Kp (Own (D.heap.size) z8) v5 v∧∃z,Tr v (D.heap.size) z (([]++(evN k))++(evN k))∧Vr v (x 8 0).2 (pnQ R)) 15 (fun _ =>#[.pointer (some ⟨D.heap.size,0,none⟩),.int .i64 k,.agg (nw 9 1)]) 38 (fun x=>pv (x 8 0).2 0) (fun _=>.agg (pnQ R)) (MrJ.start q) (fun _ _ _ h g=>h.gr g) ?xo7 ?xm7 ?xs7 ⟨fnc,fnc,fnc,fnc,fnc,fnc,fnc,fnc,fnvt,fnu,fnc,trivial⟩ ?xf7
 case xo7=>
  rintro _ v K;have Y:=q.grow K.k C (Nat.le_refl _);refine .cons (.o 3 0 (W.gr Y) rfl rfl) ?_;refine .cons (.z (one_any 1 (by decide))) ?_;exact .cons (.n 38 rfl K.k.size) .nil
 case xm7=>exact fun _ _ K _=>K.mul q fun hT=>bulR h1 h2 (d:=1) l1 (Q:=R) hR (by rw[List.nil_append,hn];omega) hT
 case xs7=>
  rintro x v K hy;obtain⟨hN,H⟩:=hy 8 (by kernel_rfl);have HT:=(vr_vt H).h;have FT:=(vr_vt H).f;exact⟨setBlk v _ (pnQ R),by simp[go_sem,exI,HT,FT],K.set hN H (pnt_size _ _ _) _⟩
 rintro aR aS ⟨V,a0,ac,av⟩;simp only[fzw,Kw.vt];replace C:=q.grow V C (Nat.le_refl _);replace V8:=V8.kp V (q.odd V8 (pnt_size _ _ _));replace B:=B.kp V (q.odd B (pnt_size _ _ _));replace A:=A.kp V (q.odd A (pnt_size _ _ _));replace q:=ac;clear ac V
 go_upto_region 14 with fail
 refine wp_wS [.O,.O,.T,.T,.O,.O,.T,.T,.T,.c (.int .i64 1901),.c (.int .i64 1901),.T,.T,.T,.O,.O,.T,.T,.T,.c (.agg (pnQ P)),.c (.agg (pnQ P)),.T,.T,.T,.c (.int .i64 n),.c (.int .i64 n),.T,.T,.T,.c (pv (D.heap.size) 0),.c (.int .i64 m),.c (.int .i64 n),.c (.int .i64 m),.T,.T,.T,.c (.int .i64 n),.T,.T,.T] [1,5,10,15,19,20,21,26,30,32,33,37] ?hs8 ?hf8
 case hs8=>
  exact⟨.y (num_any _),.y (num_any _),.y (num_any _),.y (num_any _),.g 38 0 V8 rfl,.g 38 0 B rfl,.s (.binOp .eql 38 (.const (.agg (pnQ P))) (.const (.agg (pnQ P))) 38) rfl fun U i=>by simp[go_sem,exI,eqPn,eqN_self],.s (.binOp .eql 3 (.const (.int .i64 n)) (.const (.int .i64 n)) 3) rfl fun U i=>by simp[go_sem,exI],.k _ fun J U i H=>RtW.of_c (Rt.same (lenT (q.gr i) aG)),.s (.binOp .mul 3 (.const (.int .i64 2)) (.const (.int .i64 n)) 3) rfl fun U i=>by simp[go_sem,exI,hw],.s (.binOp .eql 3 (.const (.int .i64 m)) (.const (.int .i64 m)) 3) rfl fun U i=>by simp[go_sem,exI],.s (.binOp .gtr 3 (.const (.int .i64 n)) (.const (.int .i64 0)) 3) rfl fun U i=>by simp[go_sem,exI,n0],⟨⟩⟩
 intro aT v6 i aO;simp only[fzw];clear aO;replace C:=C.trans i;have L:=i;clear i;replace G:=G.trans C;replace W:=W.gr C;replace c0:=c0.gr C;replace I:=I.gr C;replace X:=fun k=>(X k).gr C;replace V8:=V8.gr L;replace B:=B.gr L;replace A:=A.gr L;replace av:=av.gr L;replace q:=q.gr L;clear L C
 go_wp2_with fail
 go_ret
 exact⟨rfl,G⟩
end
end
end Go.Proofs.YtffhepbppiocbadGreat