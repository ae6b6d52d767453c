import Derived.Test.YtiigakdbabijhaaGreatXAZJ
namespace Go.Proofs.YtiigakdbabijhaaGreat
open Go.RowKit Go.Proofs.Tryz
set_option maxRecDepth 100000
set_option maxHeartbeats 8000000
section
attribute [local go_sem ↓] uz1
attribute [local go_sem] uz2
section
attribute [local go_sem] uz8
attribute [local go_sem ↓] uz13 Go.wp_at_zero Go.wp_at_succ
attribute [local go_sem] uz14
theorem rtm{k:Nat}(h1:1≤k)(h2:k≤15){t x y:Nat}{f:Bool}(ht:dl t≤400)(hP:mlQ k t (gQ k)=(x,y,f))(qc:Nat→Option Addr×Nat){nk:Nat}{pk p q:Option Addr}{n m:Nat}{w:World}(HQ:∀j,Sl w (qc j).1 (nN k j))(Sk:Sl w pk t)(Sx:Sl w p (xN k))(Sy:Sl w q (yN k)):
 Calls prog 19 #[.agg (crA (k:Int) (nN k) qc),.slice pk (dl t) nk,.agg (ptA p (xN k) n q (yN k) m false)] w (Rt (.pt x y f) w):=by
 have t:=rtimesQ k h1 h2 qc (gQ_on h1 h2) ht HQ Sk Sx Sy (n:=n) (m:=m) (nk:=nk);rw[hP]at t;exact t
theorem putA_on{k x y:Nat}{sh:Bool}(h:OnQ k (x,y,false)):putA k (x,y,false) sh=(putL k (x,y,false) sh,0):=by
 rw[putA,show onB k (x,y,false).1 (x,y,false).2.1 false=true from h]
 rfl
theorem lzback_any(id:Int){n:Nat}(wn:n<18446744073709551616)(sh:Bool)(s:ByteArray)(w:World):Cg 4 #[.int .i64 id,.int .u64 n,.bool sh,.string s] w (.bool true):=by
 obtain⟨u,hu,ai,hk⟩:=idx_conv id;have aC:=idx_bd id;obtain⟨k,aD⟩:=exl (idx id);rw[aD]at hk aC;obtain⟨S,U⟩:=aC
 have u0:(0:Int)≤u:=by omega
 have aj:(1:Int)+u%15=k:=by omega
 have ak:IntKind.i64.wrap ((u:Int)%15)=(u:Int)%15:=by rw[IntKind.wrap_i64];omega
 have ao:IntKind.u64.wrap ((u:Int)%15)=(u:Int)%15:=by rw[IntKind.wrap_u64];omega
 have ap:(u:Int).tmod 15=(u:Int)%15:=by rw[Int.tmod_eq_emod_of_nonneg (by omega)]
 have k0:(1:Int)≤k:=by omega
 have k1:(k:Int)≤15:=by omega
 have aq:id%18446744073709551616=(u:Int):=by rw[←hu,IntKind.wrap_u64]
 clear aD hk;have Z:Hid (∀w,Calls prog 10 #[.int .i64 k] w (GetQ k w)):=fun w=>getq_yes k S U w;have aa:Hid (∀w,Cg 14 #[] w (.bool true)):=fun w=>awake21_any w;obtain⟨P,hP⟩:=exl (mlQ k n (gQ k));have oP:OnQ k P:=hP▸mlQ_on S U _ (gQ_on S U)
 have ar:dl n≤400:=by have:=dl_M n (lt_M _ wn);omega
 obtain⟨x,y,f⟩:=P
 cases f with
 | true=>
  have ab:Hid (∀w,Cg 11 #[.int .i64 k,.agg (pnt x y true),.bool sh] w (.tuple #[.string ⟨#[]⟩,.int .i64 2101])):=fun w=>sput_inf S U x y sh w
  go_enter func4,ntmps4
  go_upto_region 6 with (first
   | (go_at_call 14;refine(aa.out _).mono ?_;rintro e WA ⟨rfl,GA⟩)
   | (go_at_call 10;refine(Z.out _).mono ?_;rintro e WB ⟨I,rfl,J,GB⟩))
  obtain⟨e9,K⟩:=exl (WB.heap.size);simp only[K]
  refine gen_w (fun v=>Gr w v∧Vr v e9 (crA (k:Int) (nN k) I)∧∀j,Sl v (I j).1 (nN k j)) ?_ ?_
  ·subst K;exact⟨(GA.trans GB).alloc _,Vr.new _ _ _,fun j=>(J j).gr ((Gr.refl _).alloc _)⟩
  clear K GA GB J aa Z hu ai aj ak ao ap aq u0 k0 k1;rintro v0 ⟨G,L,J⟩;refine wp_v true [.c (.agg (crA (k:Int) (nN k) I)),.c (.int .u64 n),.N n,.n (n),.c (.agg (crA (k:Int) (nN k) I)),.pt (xN k) (yN k) false,.pt (x) (y) true,.c (.agg (pnt x y true)),.a,.u] [0,2,3,4,5,6,7] [⟨8,9,27,pnt 0 0 false,fun _=>pnt x y true⟩] ⟨.g 31 0 L rfl,.z (one_any _ wn),.k _ fun l R d D=>RtW.of_n (fm_any (lt_M _ wn)),.g 31 0 L rfl,.k _ fun l R d D=>RtW.of_pt (rg_any I _ (fun j=>(J j).gr d)),.k (fun l =>#[.agg (crA (k:Int) (nN k) I),.slice (l 3 0).1 (dl (n)) (l 3 0).2,.agg (ptA (l 5 0).1 (xN k) (l 5 0).2 (l 5 1).1 (yN k) (l 5 1).2 false)]) fun l R d D=>RtW.of_pt (rtm S U ar hP I (fun j=>(J j).gr d) (D 3 rfl) (D 5 rfl).1 (D 5 rfl).2),.k (fun l =>#[.agg (ptA (l 6 0).1 (x) (l 6 0).2 (l 6 1).1 (y) (l 6 1).2 true)]) fun l R d D=>RtW.of_c (Rt.c (rout_any _ _ _ _ _ _ _ _ (D 6 rfl).1 (D 6 rfl).2)),⟨⟩⟩ ⟨.k zPnt ⟨fkc,fkc,fkc,fkn bPnt,fkc,fkp bPnt,fkp bPnt,fkc,fka,fku,trivial⟩,⟨⟩⟩ fun Q v1 d h6 ac=>?_;simp only[fzw,Kw.a];obtain⟨⟨ah,i⟩,-⟩:(v0.heap.size≤(Q 8 0).2∧Vr v1 (Q 8 0).2 (pnt x y true))∧True:=ac;clear h6;have h:=d;clear d
  go_upto_region 7 with fail
  refine wp_wS [.c (pv e9 0),.c (.int .i64 k),.c (.agg (pnt x y true)),.c (.bool sh),.c (.tuple #[.string ⟨#[]⟩,.int .i64 2101]),.c (.tuple #[.string ⟨#[]⟩,.int .i64 2101]),.c (.string ⟨#[]⟩),.c (.int .i64 2101),.c (.string ⟨#[]⟩),.c (.int .i64 2101)] [1,2,4] ⟨.o 3 0 (L.gr h) rfl rfl,.g 27 0 i rfl,.z ab.out,⟨⟩⟩ fun aE v2 d h7=>?_;simp only[fzw];clear h7;replace h:=h.trans d;have q:=d;clear d
  go_upto_region 8 with fail
  refine wp_wS [.c (pv ((Q 8 0).2) 18),.T] [1] ⟨.o 4 18 (i.gr q) rfl (by exact pnt_18 _ _ _),⟨⟩⟩ fun aG v3 d h8=>?_;simp only[fzw];clear h8;replace h:=h.trans d;replace q:=q.trans d;clear d
  go_upto_region 9 with fail
  refine wp_wS [.c (.int .i64 2101),.c (.int .i64 2101),.T,.T] [1] ⟨.y (num_any _),⟨⟩⟩ fun aT v4 d h9=>?_;simp only[fzw];clear h9;replace h:=h.trans d;replace q:=q.trans d;clear d;replace G:=G.trans h;replace L:=L.gr h;replace J:=fun k=>(J k).gr h;replace i:=i.gr q;clear h q
  go_wp2_with fail
  go_ret
  exact⟨rfl,G⟩
 | false=>
  obtain⟨X,Y,E,hX⟩:∃X Y E,gtL k s.data.toList=(X,Y,E):=⟨_,_,_,rfl⟩
  by_cases hE0:E=0
  ·subst hE0;obtain⟨a,ha⟩:=exl ((⟨(putL k (x,y,false) sh).toArray⟩:ByteArray))
   have ab:Hid (∀w,Cg 11 #[.int .i64 k,.agg (pnt x y false),.bool sh] w (.tuple #[.string a,.int .i64 0])):=fun w=>by have t:=sput_any S U oP.lt sh w;rwa [putA_on oP,ha]at t
   have au:Hid (∀w,Cg 12 #[.int .i64 k,.string a] w (.tuple #[.agg (pnt x y false),.int .i64 0])):=fun w=>by have t:=sget_any S U _ (gt_put S U oP rfl sh) w;rwa [ha]at t
   have av:Hid (∀w,Cg 12 #[.int .i64 k,.string s] w (.tuple #[.agg (pnt X Y false),.int .i64 0])):=fun w=>sget_any S U s.data.toList hX w;obtain⟨z1,ez⟩:=exl (1+szN k)
   have aK:IntKind.i64.wrap (1+(szN k:Int))=(z1:Int):=by have:=szN_le k;rw[IntKind.wrap_i64];omega
   obtain⟨b,eb⟩:=exl (decide (s.data.toList.length=1+szN k))
   have hb:((s.size:Int)==(z1:Int))=b:=by
    rw[←eb,←ez,Bool.eq_iff_iff,beq_iff_eq,decide_eq_true_eq,show s.data.toList.length=s.size from rfl]
    omega
   have ag:=put_gt S U hX;have aH:=eb▸ag.2
   have aL:Hid (∀w,Cg 11 #[.int .i64 k,.agg (pnt X Y false),.bool b] w (.tuple #[.string s,.int .i64 0])):=fun w=>by have t:=sput_any S U ag.1.lt b w;rw[putA_on ag.1,aH]at t;exact t
   clear ez eb ag aH
   go_enter func4,ntmps4
   go_upto_region 6 with (first
    | (go_at_call 14;refine(aa.out _).mono ?_;rintro e WA ⟨rfl,GA⟩)
    | (go_at_call 10;refine(Z.out _).mono ?_;rintro e WB ⟨I,rfl,J,GB⟩))
   obtain⟨e9,K⟩:=exl (WB.heap.size);simp only[K]
   refine gen_w (fun v=>Gr w v∧Vr v e9 (crA (k:Int) (nN k) I)∧∀j,Sl v (I j).1 (nN k j)) ?_ ?_
   ·subst K;exact⟨(GA.trans GB).alloc _,Vr.new _ _ _,fun j=>(J j).gr ((Gr.refl _).alloc _)⟩
   clear K GA GB J aa Z hu ai aj ak ao ap aq u0 k0 k1;rintro v0 ⟨G,L,J⟩;refine wp_v true [.c (.agg (crA (k:Int) (nN k) I)),.c (.int .u64 n),.N n,.n (n),.c (.agg (crA (k:Int) (nN k) I)),.pt (xN k) (yN k) false,.pt (x) (y) false,.c (.agg (pnt x y false)),.a,.u] [0,2,3,4,5,6,7] [⟨8,9,27,pnt 0 0 false,fun _=>pnt x y false⟩] ⟨.g 31 0 L rfl,.z (one_any _ wn),.k _ fun l R d D=>RtW.of_n (fm_any (lt_M _ wn)),.g 31 0 L rfl,.k _ fun l R d D=>RtW.of_pt (rg_any I _ (fun j=>(J j).gr d)),.k (fun l =>#[.agg (crA (k:Int) (nN k) I),.slice (l 3 0).1 (dl (n)) (l 3 0).2,.agg (ptA (l 5 0).1 (xN k) (l 5 0).2 (l 5 1).1 (yN k) (l 5 1).2 false)]) fun l R d D=>RtW.of_pt (rtm S U ar hP I (fun j=>(J j).gr d) (D 3 rfl) (D 5 rfl).1 (D 5 rfl).2),.k (fun l =>#[.agg (ptA (l 6 0).1 (x) (l 6 0).2 (l 6 1).1 (y) (l 6 1).2 false)]) fun l R d D=>RtW.of_c (Rt.c (rout_any _ _ _ _ _ _ _ _ (D 6 rfl).1 (D 6 rfl).2)),⟨⟩⟩ ⟨.k zPnt ⟨fkc,fkc,fkc,fkn bPnt,fkc,fkp bPnt,fkp bPnt,fkc,fka,fku,trivial⟩,⟨⟩⟩ fun Q v1 d h6 ac=>?_;simp only[fzw,Kw.a];obtain⟨⟨ah,i⟩,-⟩:(v0.heap.size≤(Q 8 0).2∧Vr v1 (Q 8 0).2 (pnt x y false))∧True:=ac;clear h6;have h:=d;clear d
   go_upto_region 7 with fail
   refine wp_wS [.c (pv e9 0),.c (.int .i64 k),.c (.agg (pnt x y false)),.c (.bool sh),.E (.string a),.E (.string a),.c (.string a),.O,.c (.string a),.O] [1,2,4] ⟨.o 3 0 (L.gr h) rfl rfl,.g 27 0 i rfl,.z ab.out,⟨⟩⟩ fun aE v2 d h7=>?_;simp only[fzw];clear h7;replace h:=h.trans d;have q:=d;clear d
   go_upto_region 8 with fail
   refine wp_wS [.c (pv ((Q 8 0).2) 18),.F] [1] ⟨.o 4 18 (i.gr q) rfl (by exact pnt_18 _ _ _),⟨⟩⟩ fun aG v3 d h8=>?_;simp only[fzw];clear h8;replace h:=h.trans d;replace q:=q.trans d;clear d
   go_upto_region 10 with fail
   refine wp_v false [.c (pv e9 0),.c (.int .i64 k),.c (.string a),.E (.agg (pnt x y false)),.E (.agg (pnt x y false)),.c (.agg (pnt x y false)),.O,.a,.u,.O] [1,3] [⟨7,8,27,pnt 0 0 false,fun _=>pnt x y false⟩] ⟨.o 3 0 (L.gr h) rfl rfl,.z au.out,⟨⟩⟩ ⟨.k zPnt (.t rfl),⟨⟩⟩ fun V v4 d aw ae=>?_;simp only[fzw,Kw.a];obtain⟨⟨ax,B⟩,-⟩:(v3.heap.size≤(V 7 0).2∧Vr v4 (V 7 0).2 (pnt x y false))∧True:=ae;clear aw;replace h:=h.trans d;replace q:=q.trans d;clear d
   go_upto_region 11 with fail
   refine wp_wS [.O,.O,.F,.F,.O,.O,.F,.F,.F,.c (.agg (pnt x y false)),.c (.agg (pnt x y false)),.F,.F] [1,5,9,10,11] ⟨.y (num_any _),.y (num_any _),.g 27 0 B rfl,.g 27 0 (i.gr q) rfl,.s (.binOp .neq 27 (.const (.agg (pnt x y false))) (.const (.agg (pnt x y false))) 27) rfl fun R d=>by simp[go_sem,exI,nePn,eqN_self],⟨⟩⟩ fun aI v5 d ay=>?_;simp only[fzw];clear ay;replace h:=h.trans d;replace q:=q.trans d;have A:=d;clear d
   go_upto_region 13 with fail
   refine wp_v false [.c (pv e9 0),.c (.int .i64 k),.c (.string s),.E (.agg (pnt X Y false)),.E (.agg (pnt X Y false)),.c (.agg (pnt X Y false)),.O,.a,.u,.O] [1,3] [⟨7,8,27,pnt 0 0 false,fun _=>pnt X Y false⟩] ⟨.o 3 0 (L.gr h) rfl rfl,.z av.out,⟨⟩⟩ ⟨.k zPnt (.t rfl),⟨⟩⟩ fun W v6 d az af=>?_;simp only[fzw,Kw.a];obtain⟨⟨aA,C⟩,-⟩:(v5.heap.size≤(W 7 0).2∧Vr v6 (W 7 0).2 (pnt X Y false))∧True:=af;clear az;replace A:=A.trans d;replace h:=h.trans d;replace q:=q.trans d;clear d
   go_upto_region 14 with fail
   refine wp_wS [.O,.O,.F] [1] ⟨.y (num_any _),⟨⟩⟩ fun aJ v7 d aB=>?_;simp only[fzw];clear aB;replace A:=A.trans d;replace h:=h.trans d;replace q:=q.trans d;have H:=d;clear d
   go_upto_region 16 with fail
   refine wp_w [.c (pv e9 0),.c (.int .i64 k),.c (.agg (pnt X Y false)),.c (.string s),.c (.int .i64 (s.size:Int)),.c (.agg (crA (k:Int) (nN k) I)),.c (.int .i64 (szN k:Int)),.c (.int .i64 z1),.c (.bool b),.E (.string s),.E (.string s),.c (.string s),.O,.c (.string s),.O] [1,2,5,6,7,8,9] ⟨.o 3 0 (L.gr h) rfl rfl,.g 27 0 (C.gr H) rfl,.g 31 0 (L.gr h) rfl,.k _ fun l R d D=>RtW.of_c (rsize_yes k S U I _ (fun j=>(J j).gr (h.trans d))),.s (.binOp .add 3 (.const (.int .i64 1)) (.const (.int .i64 (szN k:Int))) 3) rfl fun R d=>by simp[go_sem,exI,aK],.s (.binOp .eql 3 (.const (.int .i64 (s.size:Int))) (.const (.int .i64 z1)) 3) rfl fun R d=>by simp[go_sem,exI,hb],.z aL.out,⟨⟩⟩ fun aQ v8 d aM=>?_;simp only[fzw];clear aM;replace A:=A.trans d;replace H:=H.trans d;replace h:=h.trans d;replace q:=q.trans d;clear d
   go_upto_region 17 with fail
   refine wp_wS [.O,.O,.T,.T,.c (.string s),.c (.string s),.T,.T,.T] [1,6] ⟨.y (num_any _),.s (.binOp .eql 9 (.const (.string s)) (.const (.string s)) 9) rfl fun R d=>by simp[go_sem,exI],⟨⟩⟩ fun aR v9 d aO=>?_;simp only[fzw];clear aO;replace A:=A.trans d;replace H:=H.trans d;replace h:=h.trans d;replace q:=q.trans d;clear d;replace G:=G.trans h;replace L:=L.gr h;replace J:=fun k=>(J k).gr h;replace i:=i.gr q;replace B:=B.gr A;replace C:=C.gr H;clear A H h q
   go_wp2_with fail
   go_ret
   exact⟨rfl,G⟩
  ·obtain⟨rfl,rfl,-⟩:=(gt_err hX).resolve_left hE0
   have hE:(E != 0)=true:=by rw[bne,beq_eq_false_iff_ne.2 hE0];rfl
   obtain⟨a,ha⟩:=exl ((⟨(putL k (x,y,false) sh).toArray⟩:ByteArray))
   have ab:Hid (∀w,Cg 11 #[.int .i64 k,.agg (pnt x y false),.bool sh] w (.tuple #[.string a,.int .i64 0])):=fun w=>by have t:=sput_any S U oP.lt sh w;rwa [putA_on oP,ha]at t
   have au:Hid (∀w,Cg 12 #[.int .i64 k,.string a] w (.tuple #[.agg (pnt x y false),.int .i64 0])):=fun w=>by have t:=sget_any S U _ (gt_put S U oP rfl sh) w;rwa [ha]at t
   have av:Hid (∀w,Cg 12 #[.int .i64 k,.string s] w (.tuple #[.agg (pnt 0 0 false),.int .i64 E])):=fun w=>sget_any S U s.data.toList hX w
   go_enter func4,ntmps4
   go_upto_region 6 with (first
    | (go_at_call 14;refine(aa.out _).mono ?_;rintro e WA ⟨rfl,GA⟩)
    | (go_at_call 10;refine(Z.out _).mono ?_;rintro e WB ⟨I,rfl,J,GB⟩))
   obtain⟨e9,K⟩:=exl (WB.heap.size);simp only[K]
   refine gen_w (fun v=>Gr w v∧Vr v e9 (crA (k:Int) (nN k) I)∧∀j,Sl v (I j).1 (nN k j)) ?_ ?_
   ·subst K;exact⟨(GA.trans GB).alloc _,Vr.new _ _ _,fun j=>(J j).gr ((Gr.refl _).alloc _)⟩
   clear K GA GB J aa Z hu ai aj ak ao ap aq u0 k0 k1;rintro v0 ⟨G,L,J⟩;refine wp_v true [.c (.agg (crA (k:Int) (nN k) I)),.c (.int .u64 n),.N n,.n (n),.c (.agg (crA (k:Int) (nN k) I)),.pt (xN k) (yN k) false,.pt (x) (y) false,.c (.agg (pnt x y false)),.a,.u] [0,2,3,4,5,6,7] [⟨8,9,27,pnt 0 0 false,fun _=>pnt x y false⟩] ⟨.g 31 0 L rfl,.z (one_any _ wn),.k _ fun l R d D=>RtW.of_n (fm_any (lt_M _ wn)),.g 31 0 L rfl,.k _ fun l R d D=>RtW.of_pt (rg_any I _ (fun j=>(J j).gr d)),.k (fun l =>#[.agg (crA (k:Int) (nN k) I),.slice (l 3 0).1 (dl (n)) (l 3 0).2,.agg (ptA (l 5 0).1 (xN k) (l 5 0).2 (l 5 1).1 (yN k) (l 5 1).2 false)]) fun l R d D=>RtW.of_pt (rtm S U ar hP I (fun j=>(J j).gr d) (D 3 rfl) (D 5 rfl).1 (D 5 rfl).2),.k (fun l =>#[.agg (ptA (l 6 0).1 (x) (l 6 0).2 (l 6 1).1 (y) (l 6 1).2 false)]) fun l R d D=>RtW.of_c (Rt.c (rout_any _ _ _ _ _ _ _ _ (D 6 rfl).1 (D 6 rfl).2)),⟨⟩⟩ ⟨.k zPnt ⟨fkc,fkc,fkc,fkn bPnt,fkc,fkp bPnt,fkp bPnt,fkc,fka,fku,trivial⟩,⟨⟩⟩ fun Q v1 d h6 ac=>?_;simp only[fzw,Kw.a];obtain⟨⟨ah,i⟩,-⟩:(v0.heap.size≤(Q 8 0).2∧Vr v1 (Q 8 0).2 (pnt x y false))∧True:=ac;clear h6;have h:=d;clear d
   go_upto_region 7 with fail
   refine wp_wS [.c (pv e9 0),.c (.int .i64 k),.c (.agg (pnt x y false)),.c (.bool sh),.E (.string a),.E (.string a),.c (.string a),.O,.c (.string a),.O] [1,2,4] ⟨.o 3 0 (L.gr h) rfl rfl,.g 27 0 i rfl,.z ab.out,⟨⟩⟩ fun aE v2 d h7=>?_;simp only[fzw];clear h7;replace h:=h.trans d;have q:=d;clear d
   go_upto_region 8 with fail
   refine wp_wS [.c (pv ((Q 8 0).2) 18),.F] [1] ⟨.o 4 18 (i.gr q) rfl (by exact pnt_18 _ _ _),⟨⟩⟩ fun aG v3 d h8=>?_;simp only[fzw];clear h8;replace h:=h.trans d;replace q:=q.trans d;clear d
   go_upto_region 10 with fail
   refine wp_v false [.c (pv e9 0),.c (.int .i64 k),.c (.string a),.E (.agg (pnt x y false)),.E (.agg (pnt x y false)),.c (.agg (pnt x y false)),.O,.a,.u,.O] [1,3] [⟨7,8,27,pnt 0 0 false,fun _=>pnt x y false⟩] ⟨.o 3 0 (L.gr h) rfl rfl,.z au.out,⟨⟩⟩ ⟨.k zPnt (.t rfl),⟨⟩⟩ fun V v4 d aw ae=>?_;simp only[fzw,Kw.a];obtain⟨⟨ax,B⟩,-⟩:(v3.heap.size≤(V 7 0).2∧Vr v4 (V 7 0).2 (pnt x y false))∧True:=ae;clear aw;replace h:=h.trans d;replace q:=q.trans d;clear d
   go_upto_region 11 with fail
   refine wp_wS [.O,.O,.F,.F,.O,.O,.F,.F,.F,.c (.agg (pnt x y false)),.c (.agg (pnt x y false)),.F,.F] [1,5,9,10,11] ⟨.y (num_any _),.y (num_any _),.g 27 0 B rfl,.g 27 0 (i.gr q) rfl,.s (.binOp .neq 27 (.const (.agg (pnt x y false))) (.const (.agg (pnt x y false))) 27) rfl fun R d=>by simp[go_sem,exI,nePn,eqN_self],⟨⟩⟩ fun aI v5 d ay=>?_;simp only[fzw];clear ay;replace h:=h.trans d;replace q:=q.trans d;have A:=d;clear d
   go_upto_region 13 with fail
   refine wp_v false [.c (pv e9 0),.c (.int .i64 k),.c (.string s),.c (.tuple #[.agg (pnt 0 0 false),.int .i64 E]),.c (.tuple #[.agg (pnt 0 0 false),.int .i64 E]),.c (.agg (pnt 0 0 false)),.c (.int .i64 E),.a,.u,.c (.int .i64 E)] [1,3] [⟨7,8,27,pnt 0 0 false,fun _=>pnt 0 0 false⟩] ⟨.o 3 0 (L.gr h) rfl rfl,.z av.out,⟨⟩⟩ ⟨.k zPnt (.t rfl),⟨⟩⟩ fun W v6 d az af=>?_;simp only[fzw,Kw.a];obtain⟨⟨aA,C⟩,-⟩:(v5.heap.size≤(W 7 0).2∧Vr v6 (W 7 0).2 (pnt 0 0 false))∧True:=af;clear az;replace A:=A.trans d;replace h:=h.trans d;replace q:=q.trans d;clear d
   go_upto_region 14 with fail
   refine wp_wS [.c (.int .i64 E),.c (.int .i64 E),.T] [1,2] ⟨.y (num_any _),.s (.binOp .neq 3 (.const (.int .i64 E)) (.const (.int .i64 0)) 3) rfl fun R d=>by simp[go_sem,exI,hE],⟨⟩⟩ fun aJ v7 d aB=>?_;simp only[fzw];clear aB;replace A:=A.trans d;replace h:=h.trans d;replace q:=q.trans d;have H:=d;clear d
   go_upto_region 15 with fail
   refine wp_wS [.c (.agg (pnt 0 0 false)),.c (.agg (pnt 0 0 false)),.T,.T] [0,2] ⟨.g 27 0 (C.gr H) rfl,.s (.binOp .eql 27 (.const (.agg (pnt 0 0 false))) (.const (.agg (pnt 0 0 false))) 27) rfl fun R d=>by simp[go_sem,exI,eqPn,eqN_self],⟨⟩⟩ fun aS v8 d aP=>?_;simp only[fzw];clear aP;replace A:=A.trans d;replace H:=H.trans d;replace h:=h.trans d;replace q:=q.trans d;clear d;replace G:=G.trans h;replace L:=L.gr h;replace J:=fun k=>(J k).gr h;replace i:=i.gr q;replace B:=B.gr A;replace C:=C.gr H;clear A H h q
   go_wp2_with fail
   go_ret
   exact⟨rfl,G⟩
end
end
end Go.Proofs.YtiigakdbabijhaaGreat