import Derived.Test.YtonbpnbhjghfbaaXAZYu
import Derived.Test.YtonbpnbhjghfbaaXAZF
namespace Go.Proofs.Ytonbpnbhjghfbaa
open Go.RowKit Go.Proofs.Try
set_option maxRecDepth 100000
set_option maxHeartbeats 8000000
section
attribute [local go_sem ↓] uz1
attribute [local go_sem] uz2
section
theorem bs_noughts(m:Nat):bs m 0=List.replicate m 0:=by
 apply List.ext_getElem?
 intro j
 by_cases hj:j<m
 ·simp[bs,byt,hj]
 ·rw[List.getElem?_eq_none (by simp[bs];omega),List.getElem?_eq_none (by simp;omega)]
theorem rawG_noughts{N:Nat}(h:0<N)(m:Nat):rawG N (bs m 0)=(0,0,if m=2*nzB N then 0 else 2301):=by
 by_cases e:m=2*nzB N
 ·rw[if_pos e,e,show bs (2*nzB N) 0=rawL N 0 0 by rw[rawL,bs_noughts,bs_noughts,List.replicate_append_replicate,←Nat.two_mul]];exact rawG_put h h
 ·rw[if_neg e];exact rawG_len (by rw[bs_length];exact e)
theorem and_255i(n:Int):bits .and .i64 n 255=n%256:=by
 have d:(BitVec.ofInt 64 255).toNat=2^8-1:=by decide
 have f:(BitVec.ofInt 64 n&&&BitVec.ofInt 64 255).toNat=(n%((2^64:Nat):Int)).toNat%2^8:=by
  rw[BitVec.toNat_and,BitVec.toNat_ofInt,d,Nat.and_two_pow_sub_one_eq_mod]
 show IntKind.i64.wrap ((BitVec.ofInt 64 n&&&BitVec.ofInt 64 255).toNat:Nat)=n%256
 rw[f,IntKind.wrap_i64]
 omega
theorem mk_run{m:Nat}(hm:m≤1000)(v:World):(exI (.makeSlice 52 (.const (.int .i64 m)) (.const (.int .i64 m)))).run prog v=.ok (.value (.slice (some ⟨v.heap.size,0,none⟩) m m)) (v.alloc (.cells (bx m 0 0) 5)):=by
 have h:=make_bytes m 0 hm v;simp[go_sem,exI,h]
theorem lens_facts{k:Nat}(h1:1≤k)(h2:k≤15){r:Nat}(hr:r<M)(sz:Int):∃(R n m d:Nat) (E:Int) (p q zt:ByteArray),0<oN k∧dl r≤1000∧dl (oN k)≤1000∧dl (oN k)≤50000∧dl R≤50000∧R<M∧n≤72∧bl (oN k)≤8*n∧bl R≤8*n∧r%oN k=R ∧
 ⟨(bs n (oN k)).toArray⟩=p∧⟨(bs n R).toArray⟩=q∧IntKind.i64.wrap (2*(n:Int))=(d:Int)∧p.size+q.size≤9223372036854775807∧q.size+p.size≤9223372036854775807 ∧
 Hid (∀qc w,(∀j,Sl w (qc j).1 (nN k j))→Calls prog 17 #[.agg (crA (k:Int) (nN k) qc)] w (Rt (.c (.int .i64 n)) w)) ∧
 bits BinOp.and IntKind.i64 sz 255=(m:Int) ∧
 (∀v,(exI (.makeSlice 52 (.const (.int .i64 m)) (.const (.int .i64 m)))).run prog v=.ok (.value (.slice (some ⟨v.heap.size,0,none⟩) m m)) (v.alloc (.cells (bx m 0 0) 5))) ∧
 (∀v g,blk v g=bx m 0 0→(cvT (.slice (some ⟨g,0,none⟩) m m)).run prog v=.ok (.string zt) v) ∧
 Hid ((E==0)=true∧((m:Int)==(d:Int))=true∨(E==0)=false∧(E==2301)=true∧((m:Int)==(d:Int))=false) ∧
 Hid (∀w,Cg 9 #[.int .i64 k,.string zt] w (.tuple #[.agg (sgA 0 0),.int .i64 E])) ∧
 Hid (∀w,Cg 9 #[.int .i64 k,.string (p++q)] w (.tuple #[.agg (sgA 0 0),.int .i64 2302])) ∧
 Hid (∀w,Cg 9 #[.int .i64 k,.string (q++p)] w (.tuple #[.agg (sgA 0 0),.int .i64 2302])) ∧
 Hid (∀w,Cg 8 #[.int .i64 k,.agg (sgA (oN k) R)] w (.tuple #[.string ⟨#[]⟩,.int .i64 2302])) ∧
 Hid (∀w,Cg 8 #[.int .i64 k,.agg (sgA R (oN k))] w (.tuple #[.string ⟨#[]⟩,.int .i64 2302])):=by
 have f:=oN_pos h1 h2;have i:r%oN k<oN k:=Nat.mod_lt _ f;have l:r%oN k<M:=Nat.lt_trans i (oN_bd k);have H:=dl_M r hr;have I:=dl_M _ (oN_bd k);have J:=dl_M _ l;have x:=nzB_le (oN_bd k)
 have A:(bits BinOp.and IntKind.i64 sz 255)=((sz%256).toNat:Int):=by rw[and_255i];omega
 have B:(sz%256).toNat≤1000:=by omega
 have C:(⟨(bs (nzB (oN k)) (oN k)).toArray⟩:ByteArray)++⟨(bs (nzB (oN k)) (r%oN k)).toArray⟩=⟨(rawL (oN k) (oN k) (r%oN k)).toArray⟩:=app_tx _ _;have D:(⟨(bs (nzB (oN k)) (r%oN k)).toArray⟩:ByteArray)++⟨(bs (nzB (oN k)) (oN k)).toArray⟩=⟨(rawL (oN k) (r%oN k) (oN k)).toArray⟩:=app_tx _ _
 refine⟨r%oN k,nzB (oN k),(sz%256).toNat,2*nzB (oN k),if(sz%256).toNat=2*nzB (oN k) then 0 else 2301,_,_,⟨(bs (sz%256).toNat 0).toArray⟩,f,by omega,by omega,by omega,by omega,l,x,nzB_bl (Nat.le_refl _),nzB_bl (Nat.le_of_lt i),rfl,rfl,rfl,by rw[IntKind.wrap_i64];omega,by rw[sz_tx,sz_tx,bs_length,bs_length];omega,by rw[sz_tx,sz_tx,bs_length,bs_length];omega,fun qc w G=>rnsize qc G,A,mk_run B,fun v g h=>conv_bytes _ 0 v g (by rw[h,bx_noughts]),?_,fun w=>rwget h1 h2 ⟨(bs (sz%256).toNat 0).toArray⟩ (rawG_noughts f _) w,fun w=>C▸rwget h1 h2 ⟨(rawL (oN k) (oN k) (r%oN k)).toArray⟩ ?_ w,fun w=>D▸rwget h1 h2 ⟨(rawL (oN k) (r%oN k) (oN k)).toArray⟩ ?_ w,fun w=>rwput_off h1 h2 (oN_bd k) l (fun h=>Nat.lt_irrefl _ h.1) w,fun w=>rwput_off h1 h2 l (oN_bd k) (fun h=>Nat.lt_irrefl _ h.2) w⟩
 ·by_cases h:(sz%256).toNat=2*nzB (oN k)
  ·rw[if_pos h,h];exact .inl ⟨rfl,by rw[beq_iff_eq]⟩
  ·rw[if_neg h];exact .inr ⟨rfl,rfl,by rw[beq_eq_false_iff_ne];omega⟩
 ·exact(rawG_pair (Nat.le_refl _) (Nat.le_of_lt i)).trans (if_neg fun h=>Nat.lt_irrefl _ h.1)
 ·exact(rawG_pair (Nat.le_of_lt i) (Nat.le_refl _)).trans (if_neg fun h=>Nat.lt_irrefl _ h.2)
attribute [local go_sem] uz4
attribute [local go_sem ↓] cvT_is bsl_is loadC_is storeC_is loadSg_is storeSg_is zvSg_is buildSg_is loadCu_is storeCu_is zvCu_is Go.wp_at_zero Go.wp_at_succ
attribute [local go_sem] uz8
theorem lzrawlens_high(id:Int){r:Nat}(hr:r<M)(sz:Int)(w:World):Cg 5 #[.int .i64 id,.agg (nw 9 r),.int .i64 sz,.bool true] w (.bool true):=by
 obtain⟨u,hu,aJ,hk⟩:=idx_conv id;have ah:=idx_bd id;obtain⟨k,ai⟩:=exl (idx id);rw[ai]at hk ah;obtain⟨h1,h2⟩:=ah
 have u0:(0:Int)≤u:=by omega
 have aK:(1:Int)+u%15=k:=by omega
 have aL:IntKind.i64.wrap ((u:Int)%15)=(u:Int)%15:=by rw[IntKind.wrap_i64];omega
 have aM:IntKind.u64.wrap ((u:Int)%15)=(u:Int)%15:=by rw[IntKind.wrap_u64];omega
 have aO:(u:Int).tmod 15=(u:Int)%15:=by rw[Int.tmod_eq_emod_of_nonneg (by omega)]
 have k0:(1:Int)≤k:=by omega
 have k1:(k:Int)≤15:=by omega
 have aP:id%18446744073709551616=(u:Int):=by rw[←hu,IntKind.wrap_u64]
 clear ai hk;have aj:Hid (∀w,Calls prog 7 #[.int .i64 k] w (GetQ k w)):=fun w=>getq_yes k h1 h2 w;have ak:Hid (∀w,Cg 11 #[] w (.bool true)):=fun w=>awake23_any w;obtain⟨R,n,m,d,E,p,q,zt,aQ,aR,aS,aT,aU,hR,hn,aV,aW,eR,ep,eq,w1,z1,z2,HS,al,aX,aY,aZ,a0,a1,a2,ao,a3⟩:=lens_facts h1 h2 hr sz;have HP:=ao;clear ao a3
 go_enter func5,ntmps5
 go_upto_region 1 with fail
 refine gen_w (fun v=>Hid (Gr w v∧Vr v (w.heap.size) (nw 9 r))) ⟨grA,vrA⟩ ?_;intro u0 HV
 go_upto_region 6 with (first
  | (go_at_call 11;refine(ak.out _).mono ?_;rintro e WA ⟨rfl,GA⟩)
  | (go_at_call 7;refine(aj.out _).mono ?_;rintro e WB ⟨L,rfl,I,GB⟩))
 obtain⟨X,ad⟩:=exl (WB.heap.size);simp only[ad]
 refine gen_w (fun v=>Gr w v∧Vr v (w.heap.size) (nw 9 r)∧Vr v X (crA (k:Int) (nN k) L)∧∀j,Sl v (L j).1 (nN k j)) ?_ ?_
 ·subst ad;obtain⟨G,Y⟩:=HV.out;have g1:Gr WB (WB.alloc (.cells (crA (k:Int) (nN k) L) 31)):=(Gr.refl _).alloc _;have g:=(GA.trans GB).trans g1;exact⟨G.trans g,Y.gr g,Vr.new _ _ _,fun j=>(I j).gr g1⟩
 clear ad GB aj HV GA ak I hu aJ aK aL aM aO aP u0 k0 k1;rintro v0 ⟨G,Y,D,I⟩;refine wp_wS [.c (.agg (crA (k:Int) (nN k) L)),.c (.int .i64 n),.c (.int .i64 n)] [0,1] ⟨.g 31 0 D rfl,.k _ fun H B f V=>RtW.of_c (HS.out _ _ (fun j=>(I j).gr f)),⟨⟩⟩ fun br v1 f h6=>?_;simp only[fzw];clear h6;have J:=f;clear f
 go_upto_region 7 with fail
 refine wp_wS [.c (.int .i64 sz),.c (.int .i64 m),.c (.int .i64 m)] [1] ⟨.s (.binOp .and 3 (.const (.int .i64 sz)) (.const (.int .i64 255)) 3) rfl fun B f=>by simp[go_sem,exI,al],⟨⟩⟩ fun bt v2 f h7=>?_;simp only[fzw];clear h7;replace J:=J.trans f;clear f
 go_upto_region 8 with fail
 refine wp_y true [.c (pv X 0),.c (.int .i64 k),.c (.int .i64 m),.r m (bx m 0 0),.c (.string zt),.c (.tuple #[.agg (sgA 0 0),.int .i64 E]),.c (.tuple #[.agg (sgA 0 0),.int .i64 E]),.c (.agg (sgA 0 0)),.c (.int .i64 E),.a,.u,.c (.int .i64 E)] [1,4,5] [3] [⟨9,10,27,sgA 0 0,fun _=>sgA 0 0⟩] ⟨.o 3 0 (D.gr J) rfl rfl,.e (fun H=>exI (.convert 52 9 (.const (.slice (some ⟨(H 3 0).2,0,none⟩) m m)))) (by kernel_rfl) fun H B f V=>⟨fun _=>(none,0),B,by have hc:=aY B (H 3 0).2 (V 3 rfl).h;simp[go_sem,exI,hc,kW,Kw.c],Gr.refl _,trivial⟩,.z a0.out,⟨⟩⟩ ⟨.r (.makeSlice 52 (.const (.int .i64 m)) (.const (.int .i64 m))) rfl aX,⟨⟩⟩ ⟨.k zSg,⟨⟩⟩ fun ap v3 f h8 a4=>?_;simp only[fzw,Kw.a,Kw.r];obtain⟨⟨bk,U⟩,-⟩:(v2.heap.size≤(ap 9 0).2∧Vr v3 (ap 9 0).2 (sgA 0 0))∧True:=a4;clear h8;replace J:=J.trans f;clear f
 go_upto_region 9 with fail
 refine wp_v true [.N r,.n (r),.c (pv X 4),.c (.slice (L 3).1 (dl (oN k)) (L 3).2),.n (R),.N R,.a,.u] [0,1,3,4,5] [⟨6,7,25,nw 9 0,fun _=>nw 9 R⟩] ⟨.g 25 0 (Y.gr J) rfl,.k _ fun H B f V=>RtW.of_n (fm_any hr),.o 29 4 (D.gr J) rfl rfl,.k (fun H =>#[.slice (H 1 0).1 (dl (r)) (H 1 0).2,.slice (L 3).1 (dl (oN k)) (L 3).2]) fun H B f V=>RtW.of_n (Rt.n (eR▸rmod_any r (oN k) _ _ _ _ _ (V 1 rfl) ((I 3).gr (J.trans f)) aR aS aQ)),.k (fun H =>#[.slice (H 4 0).1 (dl (R)) (H 4 0).2]) fun H B f V=>RtW.of_c (nt_any (V 4 rfl)),⟨⟩⟩ ⟨.k zNat ⟨fkc,fkn bNat,fkc,fkc,fkn bNat,fkc,fka,fku,trivial⟩,⟨⟩⟩ fun ae v4 f h9 a5=>?_;simp only[fzw,Kw.a];obtain⟨⟨bm,x⟩,-⟩:(v3.heap.size≤(ae 6 0).2∧Vr v4 (ae 6 0).2 (nw 9 R))∧True:=a5;clear h9;replace J:=J.trans f;have g9:=f;clear f
 go_upto_region 10 with fail
 refine wp_v false [.c (pv X 4),.c (.slice (L 3).1 (dl (oN k)) (L 3).2),.N (oN k),.a,.u] [1,2] [⟨3,4,25,nw 9 0,fun _=>nw 9 (oN k)⟩] ⟨.o 29 4 (D.gr J) rfl rfl,.k (fun H =>#[.slice (L 3).1 (dl (oN k)) (L 3).2]) fun H B f V=>RtW.of_c (nt_any ((I 3).gr (J.trans f))),⟨⟩⟩ ⟨.k zNat (.t rfl),⟨⟩⟩ fun Z v5 f a6 aq=>?_;simp only[fzw,Kw.a];obtain⟨⟨a7,C⟩,-⟩:(v4.heap.size≤(Z 3 0).2∧Vr v5 (Z 3 0).2 (nw 9 (oN k)))∧True:=aq;clear a6;replace J:=J.trans f;replace g9:=g9.trans f;have ar:=f;clear f;replace G:=G.trans J;replace Y:=Y.gr J;replace D:=D.gr J;replace I:=fun k=>(I k).gr J;replace U:=U.gr g9;replace x:=x.gr ar;clear ar J g9;generalize (ae 6 0).2=au at *;have a8:au<v5.heap.size:=x.p;have l9:X<v5.heap.size:=D.p;have lw:=G.below.size
 go_upto_region 11 with fail
 refine wp_v false [.N R,.N (oN k),.c (.agg (sgA R (oN k))),.a,.u] [0,1,2] [⟨3,4,27,sgA 0 0,fun _=>sgA R (oN k)⟩] ⟨.g 25 0 x rfl,.g 25 0 C rfl,.s (.build 27 #[(0,(.const (.agg (nw 9 R)))),(1,(.const (.agg (nw 9 (oN k)))))]) rfl fun B f=>by simp[go_sem,exI,buildSg2],⟨⟩⟩ ⟨.k zSg (.t rfl),⟨⟩⟩ fun W v6 f a9 av=>?_;simp only[fzw,Kw.a];obtain⟨⟨af,P⟩,-⟩:(v5.heap.size≤(W 3 0).2∧Vr v6 (W 3 0).2 (sgA R (oN k)))∧True:=av;clear a9;replace G:=G.trans f;replace Y:=Y.gr f;replace D:=D.gr f;replace U:=U.gr f;replace C:=C.gr f;replace x:=x.gr f;replace I:=fun k=>(I k).gr f;clear f;generalize (W 3 0).2=ba at *;have⟨aw,ax,ay⟩:=x;have⟨az,aA,aB⟩:=C;have⟨aa,aC,aD⟩:=P
 go_upto_region 14 with fail
 refine gen_w (fun ww=>Gr w ww∧Vr ww X (crA (k:Int) (nN k) L)∧Vr ww au (nw 9 R)∧Vr ww ba (sgA (oN k) R)∧∀j,Sl ww (L j).1 (nN k j)) ⟨gr_setNew G (by omega),D.other (by omega),x.other (by omega),P.set (by rw[sgA_size];decide) _,fun j=>Sl.set (I j) (by rw[aa];exact sgA_no _ _)⟩ ?_;clear aw ax ay az aA aB aa aC aD a8 l9 lw af x C P Y D I G;rintro bu ⟨G,D,Q,S,I⟩
 go_upto_region 14 with fail
 refine wp_wS [.c (pv X 0),.c (.int .i64 k),.c (.agg (sgA (oN k) R)),.c (.tuple #[.string ⟨#[]⟩,.int .i64 2302]),.c (.tuple #[.string ⟨#[]⟩,.int .i64 2302]),.c (.string ⟨#[]⟩),.c (.int .i64 2302),.c (.string ⟨#[]⟩),.c (.int .i64 2302)] [1,2,3] ⟨.o 3 0 D rfl rfl,.g 27 0 S rfl,.z HP.out,⟨⟩⟩ fun bo v7 f bb=>?_;simp only[fzw];clear bb;have i:=f;clear f
 go_upto_region 15 with fail
 refine wp_wS [.c (pv X 4),.c (.slice (L 3).1 (dl (oN k)) (L 3).2),.c (.int .i64 n),.c (.tuple #[.string p,.bool true]),.c (.tuple #[.string p,.bool true]),.c (.string p),.T,.c (.string p),.T] [1,3] ⟨.o 29 4 (D.gr i) rfl rfl,.k (fun H =>#[.slice (L 3).1 (dl (oN k)) (L 3).2,.int .i64 n]) fun H B f V=>RtW.of_c (Rt.c (ep▸rbytes_any (oN k) _ n _ _ ((I 3).gr (i.trans f)) aT hn aV)),⟨⟩⟩ fun bp v8 f bc=>?_;simp only[fzw];clear bc;replace i:=i.trans f;clear f
 go_upto_region 16 with fail
 refine wp_wS [.N R,.n (R),.c (.int .i64 n),.c (.tuple #[.string q,.bool true]),.c (.tuple #[.string q,.bool true]),.c (.string q),.T,.c (.string q),.T] [0,1,3] ⟨.g 25 0 (Q.gr i) rfl,.k _ fun H B f V=>RtW.of_n (fm_any hR),.k (fun H =>#[.slice (H 1 0).1 (dl (R)) (H 1 0).2,.int .i64 n]) fun H B f V=>RtW.of_c (Rt.c (eq▸rbytes_any R _ n _ _ (V 1 rfl) aU hn aW)),⟨⟩⟩ fun bq v9 f bd=>?_;simp only[fzw];clear bd;replace i:=i.trans f;clear f
 go_upto_region 17 with fail
 refine wp_v false [.c (pv X 0),.c (.int .i64 k),.c (.string p),.c (.string q),.c (.string (p++q)),.c (.tuple #[.agg (sgA 0 0),.int .i64 2302]),.c (.tuple #[.agg (sgA 0 0),.int .i64 2302]),.c (.agg (sgA 0 0)),.c (.int .i64 2302),.a,.u,.c (.int .i64 2302)] [1,4,5] [⟨9,10,27,sgA 0 0,fun _=>sgA 0 0⟩] ⟨.o 3 0 (D.gr i) rfl rfl,.s (.binOp .add 9 (.const (.string p)) (.const (.string q)) 9) rfl fun B f=>by simp[go_sem,exI,z1],.z a1.out,⟨⟩⟩ ⟨.k zSg (.t rfl),⟨⟩⟩ fun ab aE f be aF=>?_;simp only[fzw,Kw.a];obtain⟨⟨bf,A⟩,-⟩:(v9.heap.size≤(ab 9 0).2∧Vr aE (ab 9 0).2 (sgA 0 0))∧True:=aF;clear be;replace i:=i.trans f;clear f
 go_upto_region 18 with fail
 refine wp_v false [.c (pv X 0),.c (.int .i64 k),.c (.string q),.c (.string p),.c (.string (q++p)),.c (.tuple #[.agg (sgA 0 0),.int .i64 2302]),.c (.tuple #[.agg (sgA 0 0),.int .i64 2302]),.c (.agg (sgA 0 0)),.c (.int .i64 2302),.a,.u,.c (.int .i64 2302)] [1,4,5] [⟨9,10,27,sgA 0 0,fun _=>sgA 0 0⟩] ⟨.o 3 0 (D.gr i) rfl rfl,.s (.binOp .add 9 (.const (.string q)) (.const (.string p)) 9) rfl fun B f=>by simp[go_sem,exI,z2],.z a2.out,⟨⟩⟩ ⟨.k zSg (.t rfl),⟨⟩⟩ fun ac bg f bh aG=>?_;simp only[fzw,Kw.a];obtain⟨⟨bi,K⟩,-⟩:(aE.heap.size≤(ac 9 0).2∧Vr bg (ac 9 0).2 (sgA 0 0))∧True:=aG;clear bh;replace i:=i.trans f;have aH:=f;clear f;replace G:=G.trans i;replace D:=D.gr i;replace Q:=Q.gr i;replace S:=S.gr i;replace I:=fun k=>(I k).gr i;replace A:=A.gr aH;clear i aH
 rcases aZ.out with ⟨hE,hmd⟩|⟨hE,hE2,hmd⟩
 ·skip
  go_upto_region 19 with fail
  refine wp_wS [.c (.int .i64 E),.c (.int .i64 E),.T,.c (.int .i64 m),.c (.int .i64 n),.c (.int .i64 d),.T,.T,.T,.c (.int .i64 m),.c (.int .i64 n),.c (.int .i64 d),.T,.T,.u,.u,.u,.T,.T,.T,.c (.int .i64 2302),.c (.int .i64 2302),.T,.T,.T,.c (.int .i64 2302),.c (.int .i64 2302),.T,.T,.T,.c (.int .i64 2302),.c (.int .i64 2302),.T,.T,.T] [1,2,5,6,11,12,21,26,31] ?hs12 ?hf12
  case hs12=>
   exact⟨.y (num_any _),.s (.binOp .eql 3 (.const (.int .i64 E)) (.const (.int .i64 0)) 3) rfl fun B f=>by simp[go_sem,exI,hE],.s (.binOp .mul 3 (.const (.int .i64 2)) (.const (.int .i64 n)) 3) rfl fun B f=>by simp[go_sem,exI,w1],.s (.binOp .eql 3 (.const (.int .i64 m)) (.const (.int .i64 d)) 3) rfl fun B f=>by simp[go_sem,exI,hmd],.s (.binOp .mul 3 (.const (.int .i64 2)) (.const (.int .i64 n)) 3) rfl fun B f=>by simp[go_sem,exI,w1],.s (.binOp .eql 3 (.const (.int .i64 m)) (.const (.int .i64 d)) 3) rfl fun B f=>by simp[go_sem,exI,hmd],.y (num_any _),.y (num_any _),.y (num_any _),⟨⟩⟩
  intro aI bj f ag;simp only[fzw];clear ag;have l:=f;clear f;replace G:=G.trans l;replace D:=D.gr l;replace Q:=Q.gr l;replace S:=S.gr l;replace A:=A.gr l;replace K:=K.gr l;replace I:=fun k=>(I k).gr l;clear l
  go_wp2_with fail
  go_ret
  exact⟨rfl,G⟩
 ·skip
  go_upto_region 19 with fail
  refine wp_wS [.c (.int .i64 E),.c (.int .i64 E),.F,.c (.int .i64 m),.c (.int .i64 n),.c (.int .i64 d),.F,.T,.T,.c (.int .i64 m),.c (.int .i64 n),.c (.int .i64 d),.F,.F,.c (.int .i64 E),.c (.int .i64 E),.T,.T,.T,.T,.c (.int .i64 2302),.c (.int .i64 2302),.T,.T,.T,.c (.int .i64 2302),.c (.int .i64 2302),.T,.T,.T,.c (.int .i64 2302),.c (.int .i64 2302),.T,.T,.T] [1,2,5,6,11,12,15,16,21,26,31] ?hs13 ?hf13
  case hs13=>
   exact⟨.y (num_any _),.s (.binOp .eql 3 (.const (.int .i64 E)) (.const (.int .i64 0)) 3) rfl fun B f=>by simp[go_sem,exI,hE],.s (.binOp .mul 3 (.const (.int .i64 2)) (.const (.int .i64 n)) 3) rfl fun B f=>by simp[go_sem,exI,w1],.s (.binOp .eql 3 (.const (.int .i64 m)) (.const (.int .i64 d)) 3) rfl fun B f=>by simp[go_sem,exI,hmd],.s (.binOp .mul 3 (.const (.int .i64 2)) (.const (.int .i64 n)) 3) rfl fun B f=>by simp[go_sem,exI,w1],.s (.binOp .eql 3 (.const (.int .i64 m)) (.const (.int .i64 d)) 3) rfl fun B f=>by simp[go_sem,exI,hmd],.y (num_any _),.s (.binOp .eql 3 (.const (.int .i64 E)) (.const (.int .i64 2301)) 3) rfl fun B f=>by simp[go_sem,exI,hE2],.y (num_any _),.y (num_any _),.y (num_any _),⟨⟩⟩
  intro aI bj f ag;simp only[fzw];clear ag;have l:=f;clear f;replace G:=G.trans l;replace D:=D.gr l;replace Q:=Q.gr l;replace S:=S.gr l;replace A:=A.gr l;replace K:=K.gr l;replace I:=fun k=>(I k).gr l;clear l
  go_wp2_with fail
  go_ret
  exact⟨rfl,G⟩
theorem lzrawlens_low(id:Int){r:Nat}(hr:r<M)(sz:Int)(w:World):Cg 5 #[.int .i64 id,.agg (nw 9 r),.int .i64 sz,.bool false] w (.bool true):=by
 obtain⟨u,hu,ay,hk⟩:=idx_conv id;have af:=idx_bd id;obtain⟨k,ag⟩:=exl (idx id);rw[ag]at hk af;obtain⟨h1,h2⟩:=af
 have u0:(0:Int)≤u:=by omega
 have az:(1:Int)+u%15=k:=by omega
 have aA:IntKind.i64.wrap ((u:Int)%15)=(u:Int)%15:=by rw[IntKind.wrap_i64];omega
 have aB:IntKind.u64.wrap ((u:Int)%15)=(u:Int)%15:=by rw[IntKind.wrap_u64];omega
 have aC:(u:Int).tmod 15=(u:Int)%15:=by rw[Int.tmod_eq_emod_of_nonneg (by omega)]
 have k0:(1:Int)≤k:=by omega
 have k1:(k:Int)≤15:=by omega
 have aD:id%18446744073709551616=(u:Int):=by rw[←hu,IntKind.wrap_u64]
 clear ag hk;have ah:Hid (∀w,Calls prog 7 #[.int .i64 k] w (GetQ k w)):=fun w=>getq_yes k h1 h2 w;have ai:Hid (∀w,Cg 11 #[] w (.bool true)):=fun w=>awake23_any w;obtain⟨R,n,m,d,E,p,q,zt,aE,aF,aG,aH,aI,hR,hn,aJ,aK,eR,ep,eq,w1,z1,z2,HS,aj,aL,aM,aO,aP,aQ,aR,aS,ak⟩:=lens_facts h1 h2 hr sz;have HP:=ak;clear aS ak
 go_enter func5,ntmps5
 go_upto_region 1 with fail
 refine gen_w (fun v=>Hid (Gr w v∧Vr v (w.heap.size) (nw 9 r))) ⟨grA,vrA⟩ ?_;intro u0 HV
 go_upto_region 6 with (first
  | (go_at_call 11;refine(ai.out _).mono ?_;rintro e WA ⟨rfl,GA⟩)
  | (go_at_call 7;refine(ah.out _).mono ?_;rintro e WB ⟨Q,rfl,V,GB⟩))
 obtain⟨Y,ad⟩:=exl (WB.heap.size);simp only[ad]
 refine gen_w (fun v=>Gr w v∧Vr v (w.heap.size) (nw 9 r)∧Vr v Y (crA (k:Int) (nN k) Q)∧∀j,Sl v (Q j).1 (nN k j)) ?_ ?_
 ·subst ad;obtain⟨G,X⟩:=HV.out;have g1:Gr WB (WB.alloc (.cells (crA (k:Int) (nN k) Q) 31)):=(Gr.refl _).alloc _;have g:=(GA.trans GB).trans g1;exact⟨G.trans g,X.gr g,Vr.new _ _ _,fun j=>(V j).gr g1⟩
 clear ad GB ah HV GA ai V hu ay az aA aB aC aD u0 k0 k1;rintro v0 ⟨G,X,U,V⟩;refine wp_wS [.c (.agg (crA (k:Int) (nN k) Q)),.c (.int .i64 n),.c (.int .i64 n)] [0,1] ⟨.g 31 0 U rfl,.k _ fun J H f W=>RtW.of_c (HS.out _ _ (fun j=>(V j).gr f)),⟨⟩⟩ fun bd v1 f h6=>?_;simp only[fzw];clear h6;have l:=f;clear f
 go_upto_region 7 with fail
 refine wp_wS [.c (.int .i64 sz),.c (.int .i64 m),.c (.int .i64 m)] [1] ⟨.s (.binOp .and 3 (.const (.int .i64 sz)) (.const (.int .i64 255)) 3) rfl fun H f=>by simp[go_sem,exI,aj],⟨⟩⟩ fun be v2 f h7=>?_;simp only[fzw];clear h7;replace l:=l.trans f;clear f
 go_upto_region 8 with fail
 refine wp_y true [.c (pv Y 0),.c (.int .i64 k),.c (.int .i64 m),.r m (bx m 0 0),.c (.string zt),.c (.tuple #[.agg (sgA 0 0),.int .i64 E]),.c (.tuple #[.agg (sgA 0 0),.int .i64 E]),.c (.agg (sgA 0 0)),.c (.int .i64 E),.a,.u,.c (.int .i64 E)] [1,4,5] [3] [⟨9,10,27,sgA 0 0,fun _=>sgA 0 0⟩] ⟨.o 3 0 (U.gr l) rfl rfl,.e (fun J=>exI (.convert 52 9 (.const (.slice (some ⟨(J 3 0).2,0,none⟩) m m)))) (by kernel_rfl) fun J H f W=>⟨fun _=>(none,0),H,by have hc:=aM H (J 3 0).2 (W 3 rfl).h;simp[go_sem,exI,hc,kW,Kw.c],Gr.refl _,trivial⟩,.z aP.out,⟨⟩⟩ ⟨.r (.makeSlice 52 (.const (.int .i64 m)) (.const (.int .i64 m))) rfl aL,⟨⟩⟩ ⟨.k zSg,⟨⟩⟩ fun al v3 f h8 aT=>?_;simp only[fzw,Kw.a,Kw.r];obtain⟨⟨a8,L⟩,-⟩:(v2.heap.size≤(al 9 0).2∧Vr v3 (al 9 0).2 (sgA 0 0))∧True:=aT;clear h8;replace l:=l.trans f;clear f
 go_upto_region 9 with fail
 refine wp_v true [.N r,.n (r),.c (pv Y 4),.c (.slice (Q 3).1 (dl (oN k)) (Q 3).2),.n (R),.N R,.a,.u] [0,1,3,4,5] [⟨6,7,25,nw 9 0,fun _=>nw 9 R⟩] ⟨.g 25 0 (X.gr l) rfl,.k _ fun J H f W=>RtW.of_n (fm_any hr),.o 29 4 (U.gr l) rfl rfl,.k (fun J =>#[.slice (J 1 0).1 (dl (r)) (J 1 0).2,.slice (Q 3).1 (dl (oN k)) (Q 3).2]) fun J H f W=>RtW.of_n (Rt.n (eR▸rmod_any r (oN k) _ _ _ _ _ (W 1 rfl) ((V 3).gr (l.trans f)) aF aG aE)),.k (fun J =>#[.slice (J 4 0).1 (dl (R)) (J 4 0).2]) fun J H f W=>RtW.of_c (nt_any (W 4 rfl)),⟨⟩⟩ ⟨.k zNat ⟨fkc,fkn bNat,fkc,fkc,fkn bNat,fkc,fka,fku,trivial⟩,⟨⟩⟩ fun ao v4 f h9 aU=>?_;simp only[fzw,Kw.a];obtain⟨⟨a9,D⟩,-⟩:(v3.heap.size≤(ao 6 0).2∧Vr v4 (ao 6 0).2 (nw 9 R))∧True:=aU;clear h9;replace l:=l.trans f;have S:=f;clear f
 go_upto_region 10 with fail
 refine wp_v false [.c (pv Y 4),.c (.slice (Q 3).1 (dl (oN k)) (Q 3).2),.N (oN k),.a,.u] [1,2] [⟨3,4,25,nw 9 0,fun _=>nw 9 (oN k)⟩] ⟨.o 29 4 (U.gr l) rfl rfl,.k (fun J =>#[.slice (Q 3).1 (dl (oN k)) (Q 3).2]) fun J H f W=>RtW.of_c (nt_any ((V 3).gr (l.trans f))),⟨⟩⟩ ⟨.k zNat (.t rfl),⟨⟩⟩ fun Z v5 f aV ap=>?_;simp only[fzw,Kw.a];obtain⟨⟨aW,A⟩,-⟩:(v4.heap.size≤(Z 3 0).2∧Vr v5 (Z 3 0).2 (nw 9 (oN k)))∧True:=ap;clear aV;replace l:=l.trans f;replace S:=S.trans f;have x:=f;clear f
 go_upto_region 11 with fail
 refine wp_v false [.N R,.N (oN k),.c (.agg (sgA R (oN k))),.a,.u] [0,1,2] [⟨3,4,27,sgA 0 0,fun _=>sgA R (oN k)⟩] ⟨.g 25 0 (D.gr x) rfl,.g 25 0 A rfl,.s (.build 27 #[(0,(.const (.agg (nw 9 R)))),(1,(.const (.agg (nw 9 (oN k)))))]) rfl fun H f=>by simp[go_sem,exI,buildSg2],⟨⟩⟩ ⟨.k zSg (.t rfl),⟨⟩⟩ fun aa v6 f aX aq=>?_;simp only[fzw,Kw.a];obtain⟨⟨aY,B⟩,-⟩:(v5.heap.size≤(aa 3 0).2∧Vr v6 (aa 3 0).2 (sgA R (oN k)))∧True:=aq;clear aX;replace x:=x.trans f;replace l:=l.trans f;replace S:=S.trans f;have I:=f;clear f
 go_upto_region 14 with fail
 refine wp_wS [.c (pv Y 0),.c (.int .i64 k),.c (.agg (sgA R (oN k))),.c (.tuple #[.string ⟨#[]⟩,.int .i64 2302]),.c (.tuple #[.string ⟨#[]⟩,.int .i64 2302]),.c (.string ⟨#[]⟩),.c (.int .i64 2302),.c (.string ⟨#[]⟩),.c (.int .i64 2302)] [1,2,3] ⟨.o 3 0 (U.gr l) rfl rfl,.g 27 0 B rfl,.z HP.out,⟨⟩⟩ fun ba v7 f aZ=>?_;simp only[fzw];clear aZ;replace x:=x.trans f;replace I:=I.trans f;replace l:=l.trans f;replace S:=S.trans f;have K:=f;clear f
 go_upto_region 15 with fail
 refine wp_wS [.c (pv Y 4),.c (.slice (Q 3).1 (dl (oN k)) (Q 3).2),.c (.int .i64 n),.c (.tuple #[.string p,.bool true]),.c (.tuple #[.string p,.bool true]),.c (.string p),.T,.c (.string p),.T] [1,3] ⟨.o 29 4 (U.gr l) rfl rfl,.k (fun J =>#[.slice (Q 3).1 (dl (oN k)) (Q 3).2,.int .i64 n]) fun J H f W=>RtW.of_c (Rt.c (ep▸rbytes_any (oN k) _ n _ _ ((V 3).gr (l.trans f)) aH hn aJ)),⟨⟩⟩ fun bb v8 f a0=>?_;simp only[fzw];clear a0;replace x:=x.trans f;replace I:=I.trans f;replace K:=K.trans f;replace l:=l.trans f;replace S:=S.trans f;clear f
 go_upto_region 16 with fail
 refine wp_wS [.N R,.n (R),.c (.int .i64 n),.c (.tuple #[.string q,.bool true]),.c (.tuple #[.string q,.bool true]),.c (.string q),.T,.c (.string q),.T] [0,1,3] ⟨.g 25 0 (D.gr x) rfl,.k _ fun J H f W=>RtW.of_n (fm_any hR),.k (fun J =>#[.slice (J 1 0).1 (dl (R)) (J 1 0).2,.int .i64 n]) fun J H f W=>RtW.of_c (Rt.c (eq▸rbytes_any R _ n _ _ (W 1 rfl) aI hn aK)),⟨⟩⟩ fun bc v9 f a1=>?_;simp only[fzw];clear a1;replace x:=x.trans f;replace I:=I.trans f;replace K:=K.trans f;replace l:=l.trans f;replace S:=S.trans f;clear f
 go_upto_region 17 with fail
 refine wp_v false [.c (pv Y 0),.c (.int .i64 k),.c (.string p),.c (.string q),.c (.string (p++q)),.c (.tuple #[.agg (sgA 0 0),.int .i64 2302]),.c (.tuple #[.agg (sgA 0 0),.int .i64 2302]),.c (.agg (sgA 0 0)),.c (.int .i64 2302),.a,.u,.c (.int .i64 2302)] [1,4,5] [⟨9,10,27,sgA 0 0,fun _=>sgA 0 0⟩] ⟨.o 3 0 (U.gr l) rfl rfl,.s (.binOp .add 9 (.const (.string p)) (.const (.string q)) 9) rfl fun H f=>by simp[go_sem,exI,z1],.z aQ.out,⟨⟩⟩ ⟨.k zSg (.t rfl),⟨⟩⟩ fun ab ar f a2 au=>?_;simp only[fzw,Kw.a];obtain⟨⟨a3,C⟩,-⟩:(v9.heap.size≤(ab 9 0).2∧Vr ar (ab 9 0).2 (sgA 0 0))∧True:=au;clear a2;replace x:=x.trans f;replace I:=I.trans f;replace K:=K.trans f;replace l:=l.trans f;replace S:=S.trans f;clear f
 go_upto_region 18 with fail
 refine wp_v false [.c (pv Y 0),.c (.int .i64 k),.c (.string q),.c (.string p),.c (.string (q++p)),.c (.tuple #[.agg (sgA 0 0),.int .i64 2302]),.c (.tuple #[.agg (sgA 0 0),.int .i64 2302]),.c (.agg (sgA 0 0)),.c (.int .i64 2302),.a,.u,.c (.int .i64 2302)] [1,4,5] [⟨9,10,27,sgA 0 0,fun _=>sgA 0 0⟩] ⟨.o 3 0 (U.gr l) rfl rfl,.s (.binOp .add 9 (.const (.string q)) (.const (.string p)) 9) rfl fun H f=>by simp[go_sem,exI,z2],.z aR.out,⟨⟩⟩ ⟨.k zSg (.t rfl),⟨⟩⟩ fun ac a4 f a5 av=>?_;simp only[fzw,Kw.a];obtain⟨⟨a6,P⟩,-⟩:(ar.heap.size≤(ac 9 0).2∧Vr a4 (ac 9 0).2 (sgA 0 0))∧True:=av;clear a5;replace x:=x.trans f;replace I:=I.trans f;replace K:=K.trans f;replace l:=l.trans f;replace S:=S.trans f;have aw:=f;clear f;replace G:=G.trans l;replace X:=X.gr l;replace U:=U.gr l;replace V:=fun k=>(V k).gr l;replace L:=L.gr S;replace D:=D.gr x;replace A:=A.gr I;replace B:=B.gr K;replace C:=C.gr aw;clear x I K aw l S
 rcases aO.out with ⟨hE,hmd⟩|⟨hE,hE2,hmd⟩
 ·skip
  go_upto_region 19 with fail
  refine wp_wS [.c (.int .i64 E),.c (.int .i64 E),.T,.c (.int .i64 m),.c (.int .i64 n),.c (.int .i64 d),.T,.T,.T,.c (.int .i64 m),.c (.int .i64 n),.c (.int .i64 d),.T,.T,.u,.u,.u,.T,.T,.T,.c (.int .i64 2302),.c (.int .i64 2302),.T,.T,.T,.c (.int .i64 2302),.c (.int .i64 2302),.T,.T,.T,.c (.int .i64 2302),.c (.int .i64 2302),.T,.T,.T] [1,2,5,6,11,12,21,26,31] ?hs25 ?hf25
  case hs25=>
   exact⟨.y (num_any _),.s (.binOp .eql 3 (.const (.int .i64 E)) (.const (.int .i64 0)) 3) rfl fun H f=>by simp[go_sem,exI,hE],.s (.binOp .mul 3 (.const (.int .i64 2)) (.const (.int .i64 n)) 3) rfl fun H f=>by simp[go_sem,exI,w1],.s (.binOp .eql 3 (.const (.int .i64 m)) (.const (.int .i64 d)) 3) rfl fun H f=>by simp[go_sem,exI,hmd],.s (.binOp .mul 3 (.const (.int .i64 2)) (.const (.int .i64 n)) 3) rfl fun H f=>by simp[go_sem,exI,w1],.s (.binOp .eql 3 (.const (.int .i64 m)) (.const (.int .i64 d)) 3) rfl fun H f=>by simp[go_sem,exI,hmd],.y (num_any _),.y (num_any _),.y (num_any _),⟨⟩⟩
  intro ax a7 f ae;simp only[fzw];clear ae;have i:=f;clear f;replace G:=G.trans i;replace X:=X.gr i;replace U:=U.gr i;replace L:=L.gr i;replace D:=D.gr i;replace A:=A.gr i;replace B:=B.gr i;replace C:=C.gr i;replace P:=P.gr i;replace V:=fun k=>(V k).gr i;clear i
  go_wp2_with fail
  go_ret
  exact⟨rfl,G⟩
 ·skip
  go_upto_region 19 with fail
  refine wp_wS [.c (.int .i64 E),.c (.int .i64 E),.F,.c (.int .i64 m),.c (.int .i64 n),.c (.int .i64 d),.F,.T,.T,.c (.int .i64 m),.c (.int .i64 n),.c (.int .i64 d),.F,.F,.c (.int .i64 E),.c (.int .i64 E),.T,.T,.T,.T,.c (.int .i64 2302),.c (.int .i64 2302),.T,.T,.T,.c (.int .i64 2302),.c (.int .i64 2302),.T,.T,.T,.c (.int .i64 2302),.c (.int .i64 2302),.T,.T,.T] [1,2,5,6,11,12,15,16,21,26,31] ?hs26 ?hf26
  case hs26=>
   exact⟨.y (num_any _),.s (.binOp .eql 3 (.const (.int .i64 E)) (.const (.int .i64 0)) 3) rfl fun H f=>by simp[go_sem,exI,hE],.s (.binOp .mul 3 (.const (.int .i64 2)) (.const (.int .i64 n)) 3) rfl fun H f=>by simp[go_sem,exI,w1],.s (.binOp .eql 3 (.const (.int .i64 m)) (.const (.int .i64 d)) 3) rfl fun H f=>by simp[go_sem,exI,hmd],.s (.binOp .mul 3 (.const (.int .i64 2)) (.const (.int .i64 n)) 3) rfl fun H f=>by simp[go_sem,exI,w1],.s (.binOp .eql 3 (.const (.int .i64 m)) (.const (.int .i64 d)) 3) rfl fun H f=>by simp[go_sem,exI,hmd],.y (num_any _),.s (.binOp .eql 3 (.const (.int .i64 E)) (.const (.int .i64 2301)) 3) rfl fun H f=>by simp[go_sem,exI,hE2],.y (num_any _),.y (num_any _),.y (num_any _),⟨⟩⟩
  intro ax a7 f ae;simp only[fzw];clear ae;have i:=f;clear f;replace G:=G.trans i;replace X:=X.gr i;replace U:=U.gr i;replace L:=L.gr i;replace D:=D.gr i;replace A:=A.gr i;replace B:=B.gr i;replace C:=C.gr i;replace P:=P.gr i;replace V:=fun k=>(V k).gr i;clear i
  go_wp2_with fail
  go_ret
  exact⟨rfl,G⟩
theorem lzrawlens_any(id:Int){r:Nat}(hr:r<M)(sz:Int)(h:Bool)(w:World):Cg 5 #[.int .i64 id,.agg (nw 9 r),.int .i64 sz,.bool h] w (.bool true):=by
 cases h with
 | true=>exact lzrawlens_high id hr sz w
 | false=>exact lzrawlens_low id hr sz w
end
end
end Go.Proofs.Ytonbpnbhjghfbaa