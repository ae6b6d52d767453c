import Derived.Test.YtiigakdbabijhaaGreatXALZBack
namespace Go.Proofs.YtiigakdbabijhaaGreat
open Go.RowKit Go.Proofs.Tryz
set_option maxRecDepth 100000
set_option maxHeartbeats 8000000
section
attribute [local go_sem ↓] uz1
attribute [local go_sem] uz2
section
attribute [local go_sem] uz8
attribute [local go_sem ↓] uz13 Go.wp_at_zero Go.wp_at_succ
attribute [local go_sem] uz14
theorem gtL_off{k x y:Nat}(ha:bn (bs (szN k) x)=x)(hb:bn (bs (szN k) y)=y)(h:onB k x y false=false):gtL k (4 :: (bs (szN k) x++bs (szN k) y))=(0,0,2101):=by
 have d:(bs (szN k) x++bs (szN k) y).take (szN k)=bs (szN k) x:=List.take_left' (bs_length _ _);have f:(bs (szN k) x++bs (szN k) y).drop (szN k)=bs (szN k) y:=List.drop_left' (bs_length _ _);rw[gtL_cons,if_pos ⟨rfl,by rw[List.length_append,bs_length,bs_length];omega⟩,d,f,ha,hb,h]
 rfl
theorem lzgreat_any(id:Int){n:Nat}(wn:n<18446744073709551616)(g:Bool)(w:World):Cg 8 #[.int .i64 id,.int .u64 n,.bool g] w (.bool true):=by
 obtain⟨u,hu,av,hk⟩:=idx_conv id;have aZ:=idx_bd id;obtain⟨k,a0⟩:=exl (idx id);rw[a0]at hk aZ;obtain⟨X,Y⟩:=aZ
 have u0:(0:Int)≤u:=by omega
 have aw:(1:Int)+u%15=k:=by omega
 have ax:IntKind.i64.wrap ((u:Int)%15)=(u:Int)%15:=by rw[IntKind.wrap_i64];omega
 have ay:IntKind.u64.wrap ((u:Int)%15)=(u:Int)%15:=by rw[IntKind.wrap_u64];omega
 have az:(u:Int).tmod 15=(u:Int)%15:=by rw[Int.tmod_eq_emod_of_nonneg (by omega)]
 have k0:(1:Int)≤k:=by omega
 have k1:(k:Int)≤15:=by omega
 have aA:id%18446744073709551616=(u:Int):=by rw[←hu,IntKind.wrap_u64]
 clear a0 hk;have ac:Hid (∀w,Calls prog 10 #[.int .i64 k] w (GetQ k w)):=fun w=>getq_yes k X Y w;have ae:Hid (∀w,Cg 14 #[] w (.bool true)):=fun w=>awake21_any w;obtain⟨P,hP⟩:=exl (mlQ k n (gQ k));have oP:OnQ k P:=hP▸mlQ_on X Y _ (gQ_on X Y)
 have aB:dl n≤400:=by have:=dl_M n (lt_M _ wn);omega
 obtain⟨x,y,f⟩:=P
 cases f with
 | true=>
  go_enter func8,ntmps8
  go_upto_region 4 with (first
   | (go_at_call 14;refine(ae.out _).mono ?_;rintro e WA ⟨rfl,GA⟩)
   | (go_at_call 10;refine(ac.out _).mono ?_;rintro e WB ⟨J,rfl,I,GB⟩))
  obtain⟨e9,V⟩:=exl (WB.heap.size);simp only[V]
  refine gen_w (fun v=>Gr w v∧Vr v e9 (crA (k:Int) (nN k) J)∧∀j,Sl v (J j).1 (nN k j)) ?_ ?_
  ·subst V;exact⟨(GA.trans GB).alloc _,Vr.new _ _ _,fun j=>(I j).gr ((Gr.refl _).alloc _)⟩
  clear V GA GB I ae ac hu av aw ax ay az aA u0 k0 k1;rintro v0 ⟨G,K,I⟩;refine wp_v true [.c (.agg (crA (k:Int) (nN k) J)),.c (.int .u64 n),.N n,.n (n),.c (.agg (crA (k:Int) (nN k) J)),.pt (xN k) (yN k) false,.pt (x) (y) true,.a,.u] [0,2,3,4,5,6] [⟨7,8,44,ptA none 0 0 none 0 0 false,fun A=>ptA (A 6 0).1 (x) (A 6 0).2 (A 6 1).1 (y) (A 6 1).2 true⟩] ⟨.g 31 0 K rfl,.z (one_any _ wn),.k _ fun A U i L=>RtW.of_n (fm_any (lt_M _ wn)),.g 31 0 K rfl,.k _ fun A U i L=>RtW.of_pt (rg_any J _ (fun j=>(I j).gr i)),.k (fun A =>#[.agg (crA (k:Int) (nN k) J),.slice (A 3 0).1 (dl (n)) (A 3 0).2,.agg (ptA (A 5 0).1 (xN k) (A 5 0).2 (A 5 1).1 (yN k) (A 5 1).2 false)]) fun A U i L=>RtW.of_pt (rtm X Y aB hP J (fun j=>(I j).gr i) (L 3 rfl) (L 5 rfl).1 (L 5 rfl).2),⟨⟩⟩ ⟨.mk (fun _ _ h=>Value.agg.inj (h 6 rfl)) (fun _ v b H F=>by dsimp only at H ⊢;simp[go_sem,exI,H,F]) zPt ⟨fkc,fkc,fkc,fkn bPt,fkc,fkp bPt,fkp bPt,fka,fku,trivial⟩,⟨⟩⟩ fun d v1 i h4 af=>?_;simp only[fzw,Kw.a];obtain⟨B,C⟩:Sl v1 (d 6 0).1 (x)∧Sl v1 (d 6 1).1 (y):=h4 6;obtain⟨⟨ar,D⟩,-⟩:(v0.heap.size≤(d 7 0).2∧Vr v1 (d 7 0).2 (ptA (d 6 0).1 (x) (d 6 0).2 (d 6 1).1 (y) (d 6 1).2 true))∧True:=af;clear h4;have Q:=i;clear i
  go_upto_region 5 with fail
  refine wp_wS [.T,.F,.F,.c (pv ((d 7 0).2) 2),.T,.T] [4] ⟨.o 4 2 D rfl rfl,⟨⟩⟩ fun aI v2 i h5=>?_;simp only[fzw];clear h5;replace Q:=Q.trans i;have R:=i;clear i;replace G:=G.trans Q;replace K:=K.gr Q;replace I:=fun k=>(I k).gr Q;replace D:=D.gr R;replace B:=B.gr R;replace C:=C.gr R;clear Q R
  go_wp2_with fail
  go_ret
  exact⟨rfl,G⟩
 | false=>
  have aJ:x<pN k∧y<pN k:=by
   have h:=oP;simp only[OnQ,onB,Bool.false_eq_true,if_false,Bool.and_eq_true,decide_eq_true_eq]at h;exact⟨h.1,h.2.1⟩
  cases g with
  | false=>
   by_cases hbS:bl (x+pN k)≤8*szN k
   ·obtain⟨S,hS⟩:=exl (x+pN k);rw[hS]at hbS;have aO:=pN_bd k X Y;have hz:=szN_le k
    have aa:S<M:=by omega
    have aj:dl S≤50000:=by have:=dl_M S aa;omega
    have aP:dl y≤50000:=by have:=dl_M y oP.lt.2;omega
    have aK:=szN_bl aJ.2
    have ak:Hid (∀p n q m w,Sl w p x→Sl w q (pN k)→Calls prog 25 #[.slice p (dl x) n,.slice q (dl (pN k)) m] w (Nm S w)):=fun p n q m w sp sq=>by
     have t:=radd_any x (pN k) n m p q w sp sq (by have:=dl_M x oP.lt.1;omega) (by have:=dl_M (pN k) (pN_M k);omega)
     rwa [hS]at t
    have ag:onB k S y false=false:=by
     simp[onB,show ¬S<pN k by omega]
    obtain⟨Z,ah⟩:∃t:ByteArray,⟨(bs (szN k) S).toArray⟩=t:=⟨_,rfl⟩;obtain⟨ty,aC⟩:∃t:ByteArray,⟨(bs (szN k) y).toArray⟩=t:=⟨_,rfl⟩
    have aQ:Hid (∀w,Cg 12 #[.int .i64 k,.string (⟨#[4]⟩++Z++ty)] w (.tuple #[.agg (pnt 0 0 false),.int .i64 2101])):=fun w=>by
     have t:=sget_any X Y (4 :: (bs (szN k) S++bs (szN k) y)) (gtL_off (bn_bs _ _ ((bl_le _ _).1 hbS)) (bn_bs _ _ ((bl_le _ _).1 aK)) ag) w
     rwa [show (⟨(4 :: (bs (szN k) S++bs (szN k) y)).toArray⟩:ByteArray)=⟨#[4]⟩++Z++ty by rw[←ah,←aC,app_tx [4],app_tx];rfl]at t
    have aR:Hid (∀w,Cg 11 #[.int .i64 k,.agg (pnt S y false),.bool false] w (.tuple #[.string ⟨#[]⟩,.int .i64 2101])):=fun w=>sput_off X Y aa oP.lt.2 ag false w
    have aS:Hid (∀w,Cg 28 #[.int .i64 k,.agg (pnt S y false)] w (.bool false)):=fun w=>by
     have t:=on13_yes k X Y S y false aa oP.lt.2 w
     rwa [ag]at t
    have z2:1+Z.size≤9223372036854775807:=by rw[←ah,sz_tx,bs_length];omega
    have z3:1+Z.size+ty.size≤9223372036854775807:=by rw[←ah,←aC,sz_tx,sz_tx,bs_length,bs_length];omega
    clear ag
    go_enter func8,ntmps8
    go_upto_region 4 with (first
     | (go_at_call 14;refine(ae.out _).mono ?_;rintro e WA ⟨rfl,GA⟩)
     | (go_at_call 10;refine(ac.out _).mono ?_;rintro e WB ⟨J,rfl,I,GB⟩))
    obtain⟨e9,V⟩:=exl (WB.heap.size);simp only[V]
    refine gen_w (fun v=>Gr w v∧Vr v e9 (crA (k:Int) (nN k) J)∧∀j,Sl v (J j).1 (nN k j)) ?_ ?_
    ·subst V;exact⟨(GA.trans GB).alloc _,Vr.new _ _ _,fun j=>(I j).gr ((Gr.refl _).alloc _)⟩
    clear V GA GB I ae ac hu av aw ax ay az aA u0 k0 k1;rintro v0 ⟨G,K,I⟩;refine wp_v true [.c (.agg (crA (k:Int) (nN k) J)),.c (.int .u64 n),.N n,.n (n),.c (.agg (crA (k:Int) (nN k) J)),.pt (xN k) (yN k) false,.pt (x) (y) false,.a,.u] [0,2,3,4,5,6] [⟨7,8,44,ptA none 0 0 none 0 0 false,fun A=>ptA (A 6 0).1 (x) (A 6 0).2 (A 6 1).1 (y) (A 6 1).2 false⟩] ⟨.g 31 0 K rfl,.z (one_any _ wn),.k _ fun A U i L=>RtW.of_n (fm_any (lt_M _ wn)),.g 31 0 K rfl,.k _ fun A U i L=>RtW.of_pt (rg_any J _ (fun j=>(I j).gr i)),.k (fun A =>#[.agg (crA (k:Int) (nN k) J),.slice (A 3 0).1 (dl (n)) (A 3 0).2,.agg (ptA (A 5 0).1 (xN k) (A 5 0).2 (A 5 1).1 (yN k) (A 5 1).2 false)]) fun A U i L=>RtW.of_pt (rtm X Y aB hP J (fun j=>(I j).gr i) (L 3 rfl) (L 5 rfl).1 (L 5 rfl).2),⟨⟩⟩ ⟨.mk (fun _ _ h=>Value.agg.inj (h 6 rfl)) (fun _ v b H F=>by dsimp only at H ⊢;simp[go_sem,exI,H,F]) zPt ⟨fkc,fkc,fkc,fkn bPt,fkc,fkp bPt,fkp bPt,fka,fku,trivial⟩,⟨⟩⟩ fun d v1 i h4 af=>?_;simp only[fzw,Kw.a];obtain⟨B,C⟩:Sl v1 (d 6 0).1 (x)∧Sl v1 (d 6 1).1 (y):=h4 6;obtain⟨⟨ar,D⟩,-⟩:(v0.heap.size≤(d 7 0).2∧Vr v1 (d 7 0).2 (ptA (d 6 0).1 (x) (d 6 0).2 (d 6 1).1 (y) (d 6 1).2 false))∧True:=af;clear h4;have Q:=i;clear i
    go_upto_region 5 with fail
    refine wp_wS [.T,.F,.F,.c (pv ((d 7 0).2) 2),.F,.F] [4] ⟨.o 4 2 D rfl rfl,⟨⟩⟩ fun aI v2 i h5=>?_;simp only[fzw];clear h5;replace Q:=Q.trans i;have R:=i;clear i
    go_upto_region 7 with fail
    refine wp_w [.c (pv ((d 7 0).2) 0),.c (.slice (d 6 0).1 (dl (x)) (d 6 0).2),.c (pv ((d 7 0).2) 1),.c (.slice (d 6 1).1 (dl (y)) (d 6 1).2),.c (.slice (d 6 0).1 (dl (x)) (d 6 0).2),.c (.slice (d 6 1).1 (dl (y)) (d 6 1).2)] [1,3] ⟨.o 29 0 (D.gr R) rfl rfl,.o 29 1 (D.gr R) rfl rfl,⟨⟩⟩ fun aT v3 i h7=>?_;simp only[fzw];clear h7;replace Q:=Q.trans i;replace R:=R.trans i;clear i
    go_upto_region 8 with fail
    refine wp_wS [.F] [] ⟨⟩ fun aU v4 i h8=>?_;simp only[fzw];clear h8;replace Q:=Q.trans i;replace R:=R.trans i;clear i;replace G:=G.trans Q;replace K:=K.gr Q;replace I:=fun k=>(I k).gr Q;replace D:=D.gr R;replace B:=B.gr R;replace C:=C.gr R;clear Q R
    have k1:v4.cell? ⟨e9,1,none⟩=some (.slice (J 0).1 (dl (pN k)) (J 0).2):=by rw[K.cell];rfl
    go_upto_region 11 with (go_at_call 25;refine(ak.out _ _ _ _ _ B (I 0)).mono ?_;rintro e u2 ⟨pS,nS,rfl,SS,GU⟩)
    clear k1;replace G:=G.trans GU;replace K:=K.gr GU;replace C:=C.gr GU;replace I:=fun j=>(I j).gr GU;clear GU
    go_upto_region 11 with fail
    refine wp_wS [.c (.slice pS (dl (S)) nS),.c (.agg (crA (k:Int) (nN k) J)),.c (.int .i64 (szN k:Int)),.c (.tuple #[.string Z,.bool true]),.c (.tuple #[.string Z,.bool true]),.c (.string Z),.T,.c (.string Z),.T] [1,2,3] ⟨.g 31 0 K rfl,.k _ fun A U i L=>RtW.of_c (rsize_yes k X Y J _ (fun j=>(I j).gr i)),.k (fun A =>#[.slice pS (dl (S)) nS,.int .i64 (szN k:Int)]) fun A U i L=>RtW.of_c (Rt.c (ah▸rbytes_any S _ (szN k) _ _ (SS.gr i) aj hz hbS)),⟨⟩⟩ fun aD v5 i ao=>?_;simp only[fzw];clear ao;have l:=i;clear i
    go_upto_region 12 with fail
    refine wp_wS [.c (.slice (d 6 1).1 (dl (y)) (d 6 1).2),.c (.agg (crA (k:Int) (nN k) J)),.c (.int .i64 (szN k:Int)),.c (.tuple #[.string ty,.bool true]),.c (.tuple #[.string ty,.bool true]),.c (.string ty),.T,.c (.string ty),.T] [1,2,3] ⟨.g 31 0 (K.gr l) rfl,.k _ fun A U i L=>RtW.of_c (rsize_yes k X Y J _ (fun j=>(I j).gr (l.trans i))),.k (fun A =>#[.slice (d 6 1).1 (dl (y)) (d 6 1).2,.int .i64 (szN k:Int)]) fun A U i L=>RtW.of_c (Rt.c (aC▸rbytes_any y _ (szN k) _ _ (C.gr (l.trans i)) aP hz aK)),⟨⟩⟩ fun aE v6 i ap=>?_;simp only[fzw];clear ap;replace l:=l.trans i;clear i
    go_upto_region 13 with fail
    refine wp_wS [.T,.F,.F,.T,.F,.F] [] ⟨⟩ fun aG v7 i aq=>?_;simp only[fzw];clear aq;replace l:=l.trans i;clear i
    go_upto_region 15 with fail
    refine wp_v false [.c (pv e9 0),.c (.int .i64 k),.c (.string Z),.c (.string (⟨#[4]⟩++Z)),.c (.string ty),.c (.string (⟨#[4]⟩++Z++ty)),.c (.tuple #[.agg (pnt 0 0 false),.int .i64 2101]),.c (.tuple #[.agg (pnt 0 0 false),.int .i64 2101]),.c (.agg (pnt 0 0 false)),.c (.int .i64 2101),.a,.u,.c (.int .i64 2101)] [1,3,5,6] [⟨10,11,27,pnt 0 0 false,fun _=>pnt 0 0 false⟩] ⟨.o 3 0 (K.gr l) rfl rfl,.s (.binOp .add 9 (.const (.string { data :=#[4] })) (.const (.string Z)) 9) rfl fun U i=>by simp[go_sem,exI,z2],.s (.binOp .add 9 (.const (.string (⟨#[4]⟩++Z))) (.const (.string ty)) 9) rfl fun U i=>by simp[go_sem,exI,z3],.z aQ.out,⟨⟩⟩ ⟨.k zPnt (.t rfl),⟨⟩⟩ fun ai v8 i aV aH=>?_;simp only[fzw,Kw.a];obtain⟨⟨aL,W⟩,-⟩:(v7.heap.size≤(ai 10 0).2∧Vr v8 (ai 10 0).2 (pnt 0 0 false))∧True:=aH;clear aV;replace l:=l.trans i;clear i
    go_upto_region 16 with fail
    refine wp_w [.c (pv e9 0),.c (.int .i64 k),.c (.slice pS (dl (S)) nS),.N S,.c (.slice (d 6 1).1 (dl (y)) (d 6 1).2),.N y,.c (.agg (pnt S y false)),.c (.tuple #[.string ⟨#[]⟩,.int .i64 2101]),.c (.tuple #[.string ⟨#[]⟩,.int .i64 2101]),.c (.string ⟨#[]⟩),.c (.int .i64 2101),.c (.string ⟨#[]⟩),.c (.int .i64 2101)] [1,3,5,7] ⟨.o 3 0 (K.gr l) rfl rfl,.k (fun A =>#[.slice pS (dl (S)) nS]) fun A U i L=>RtW.of_c (nt_any (SS.gr (l.trans i))),.k (fun A =>#[.slice (d 6 1).1 (dl (y)) (d 6 1).2]) fun A U i L=>RtW.of_c (nt_any (C.gr (l.trans i))),.z aR.out,⟨⟩⟩ fun a1 v9 i aW=>?_;simp only[fzw];clear aW;replace l:=l.trans i;have ab:=i;clear i
    go_upto_region 17 with fail
    refine wp_w [.c (.int .i64 2101),.c (.int .i64 2101),.T,.T,.c (.agg (pnt 0 0 false)),.c (.agg (pnt 0 0 false)),.T,.T,.T,.c (.int .i64 2101),.c (.int .i64 2101),.T,.T,.T,.c (pv e9 0),.c (.int .i64 k),.c (.slice pS (dl (S)) nS),.N S,.c (.slice (d 6 1).1 (dl (y)) (d 6 1).2),.N y,.c (.agg (pnt S y false)),.F,.T,.T,.T] [1,4,6,10,15,17,19,21] ⟨.y (num_any _),.g 27 0 (W.gr ab) rfl,.s (.binOp .eql 27 (.const (.agg (pnt 0 0 false))) (.const (.agg (pnt 0 0 false))) 27) rfl fun U i=>by simp[go_sem,exI,eqPn,eqN_self],.y (num_any _),.o 3 0 (K.gr l) rfl rfl,.k (fun A =>#[.slice pS (dl (S)) nS]) fun A U i L=>RtW.of_c (nt_any (SS.gr (l.trans i))),.k (fun A =>#[.slice (d 6 1).1 (dl (y)) (d 6 1).2]) fun A U i L=>RtW.of_c (nt_any (C.gr (l.trans i))),.z aS.out,⟨⟩⟩ fun a2 a3 i aX=>?_;simp only[fzw];clear aX;replace l:=l.trans i;replace ab:=ab.trans i;clear i;replace G:=G.trans l;replace K:=K.gr l;replace I:=fun k=>(I k).gr l;replace C:=C.gr l;replace SS:=SS.gr l;replace W:=W.gr ab;clear l ab
    go_wp2_with fail
    go_ret
    exact⟨rfl,G⟩
   ·obtain⟨S,hS⟩:=exl (x+pN k);rw[hS]at hbS;have aO:=pN_bd k X Y;have hz:=szN_le k
    have aa:S<M:=by omega
    have aj:dl S≤50000:=by have:=dl_M S aa;omega
    have aP:dl y≤50000:=by have:=dl_M y oP.lt.2;omega
    have aK:=szN_bl aJ.2
    have ak:Hid (∀p n q m w,Sl w p x→Sl w q (pN k)→Calls prog 25 #[.slice p (dl x) n,.slice q (dl (pN k)) m] w (Nm S w)):=fun p n q m w sp sq=>by
     have t:=radd_any x (pN k) n m p q w sp sq (by have:=dl_M x oP.lt.1;omega) (by have:=dl_M (pN k) (pN_M k);omega)
     rwa [hS]at t
    obtain⟨ty,aC⟩:∃t:ByteArray,⟨(bs (szN k) y).toArray⟩=t:=⟨_,rfl⟩
    go_enter func8,ntmps8
    go_upto_region 4 with (first
     | (go_at_call 14;refine(ae.out _).mono ?_;rintro e WA ⟨rfl,GA⟩)
     | (go_at_call 10;refine(ac.out _).mono ?_;rintro e WB ⟨J,rfl,I,GB⟩))
    obtain⟨e9,V⟩:=exl (WB.heap.size);simp only[V]
    refine gen_w (fun v=>Gr w v∧Vr v e9 (crA (k:Int) (nN k) J)∧∀j,Sl v (J j).1 (nN k j)) ?_ ?_
    ·subst V;exact⟨(GA.trans GB).alloc _,Vr.new _ _ _,fun j=>(I j).gr ((Gr.refl _).alloc _)⟩
    clear V GA GB I ae ac hu av aw ax ay az aA u0 k0 k1;rintro v0 ⟨G,K,I⟩;refine wp_v true [.c (.agg (crA (k:Int) (nN k) J)),.c (.int .u64 n),.N n,.n (n),.c (.agg (crA (k:Int) (nN k) J)),.pt (xN k) (yN k) false,.pt (x) (y) false,.a,.u] [0,2,3,4,5,6] [⟨7,8,44,ptA none 0 0 none 0 0 false,fun A=>ptA (A 6 0).1 (x) (A 6 0).2 (A 6 1).1 (y) (A 6 1).2 false⟩] ⟨.g 31 0 K rfl,.z (one_any _ wn),.k _ fun A U i L=>RtW.of_n (fm_any (lt_M _ wn)),.g 31 0 K rfl,.k _ fun A U i L=>RtW.of_pt (rg_any J _ (fun j=>(I j).gr i)),.k (fun A =>#[.agg (crA (k:Int) (nN k) J),.slice (A 3 0).1 (dl (n)) (A 3 0).2,.agg (ptA (A 5 0).1 (xN k) (A 5 0).2 (A 5 1).1 (yN k) (A 5 1).2 false)]) fun A U i L=>RtW.of_pt (rtm X Y aB hP J (fun j=>(I j).gr i) (L 3 rfl) (L 5 rfl).1 (L 5 rfl).2),⟨⟩⟩ ⟨.mk (fun _ _ h=>Value.agg.inj (h 6 rfl)) (fun _ v b H F=>by dsimp only at H ⊢;simp[go_sem,exI,H,F]) zPt ⟨fkc,fkc,fkc,fkn bPt,fkc,fkp bPt,fkp bPt,fka,fku,trivial⟩,⟨⟩⟩ fun d v1 i h4 af=>?_;simp only[fzw,Kw.a];obtain⟨B,C⟩:Sl v1 (d 6 0).1 (x)∧Sl v1 (d 6 1).1 (y):=h4 6;obtain⟨⟨ar,D⟩,-⟩:(v0.heap.size≤(d 7 0).2∧Vr v1 (d 7 0).2 (ptA (d 6 0).1 (x) (d 6 0).2 (d 6 1).1 (y) (d 6 1).2 false))∧True:=af;clear h4;have Q:=i;clear i
    go_upto_region 5 with fail
    refine wp_wS [.T,.F,.F,.c (pv ((d 7 0).2) 2),.F,.F] [4] ⟨.o 4 2 D rfl rfl,⟨⟩⟩ fun aI v2 i h5=>?_;simp only[fzw];clear h5;replace Q:=Q.trans i;have R:=i;clear i
    go_upto_region 7 with fail
    refine wp_w [.c (pv ((d 7 0).2) 0),.c (.slice (d 6 0).1 (dl (x)) (d 6 0).2),.c (pv ((d 7 0).2) 1),.c (.slice (d 6 1).1 (dl (y)) (d 6 1).2),.c (.slice (d 6 0).1 (dl (x)) (d 6 0).2),.c (.slice (d 6 1).1 (dl (y)) (d 6 1).2)] [1,3] ⟨.o 29 0 (D.gr R) rfl rfl,.o 29 1 (D.gr R) rfl rfl,⟨⟩⟩ fun aT v3 i h7=>?_;simp only[fzw];clear h7;replace Q:=Q.trans i;replace R:=R.trans i;clear i
    go_upto_region 8 with fail
    refine wp_wS [.F] [] ⟨⟩ fun aU v4 i h8=>?_;simp only[fzw];clear h8;replace Q:=Q.trans i;replace R:=R.trans i;clear i;replace G:=G.trans Q;replace K:=K.gr Q;replace I:=fun k=>(I k).gr Q;replace D:=D.gr R;replace B:=B.gr R;replace C:=C.gr R;clear Q R
    have k1:v4.cell? ⟨e9,1,none⟩=some (.slice (J 0).1 (dl (pN k)) (J 0).2):=by rw[K.cell];rfl
    go_upto_region 11 with (go_at_call 25;refine(ak.out _ _ _ _ _ B (I 0)).mono ?_;rintro e u2 ⟨pS,nS,rfl,SS,GU⟩)
    clear k1;replace G:=G.trans GU;replace K:=K.gr GU;replace C:=C.gr GU;replace I:=fun j=>(I j).gr GU;clear GU
    go_upto_region 11 with fail
    refine wp_wS [.c (.slice pS (dl (S)) nS),.c (.agg (crA (k:Int) (nN k) J)),.c (.int .i64 (szN k:Int)),.c (.tuple #[.string ⟨#[]⟩,.bool false]),.c (.tuple #[.string ⟨#[]⟩,.bool false]),.c (.string ⟨#[]⟩),.F,.c (.string ⟨#[]⟩),.F] [1,2,3] ⟨.g 31 0 K rfl,.k _ fun A U i L=>RtW.of_c (rsize_yes k X Y J _ (fun j=>(I j).gr i)),.k (fun A =>#[.slice pS (dl (S)) nS,.int .i64 (szN k:Int)]) fun A U i L=>RtW.of_c (Rt.c (rbytes_no S _ (szN k) _ _ (SS.gr i) aj (.inr (.inr (by omega))))),⟨⟩⟩ fun aD v5 i ao=>?_;simp only[fzw];clear ao;have l:=i;clear i
    go_upto_region 12 with fail
    refine wp_wS [.c (.slice (d 6 1).1 (dl (y)) (d 6 1).2),.c (.agg (crA (k:Int) (nN k) J)),.c (.int .i64 (szN k:Int)),.c (.tuple #[.string ty,.bool true]),.c (.tuple #[.string ty,.bool true]),.c (.string ty),.T,.c (.string ty),.T] [1,2,3] ⟨.g 31 0 (K.gr l) rfl,.k _ fun A U i L=>RtW.of_c (rsize_yes k X Y J _ (fun j=>(I j).gr (l.trans i))),.k (fun A =>#[.slice (d 6 1).1 (dl (y)) (d 6 1).2,.int .i64 (szN k:Int)]) fun A U i L=>RtW.of_c (Rt.c (aC▸rbytes_any y _ (szN k) _ _ (C.gr (l.trans i)) aP hz aK)),⟨⟩⟩ fun aE v6 i ap=>?_;simp only[fzw];clear ap;replace l:=l.trans i;clear i
    go_upto_region 13 with fail
    refine wp_wS [.F,.T,.T,.u,.u,.T] [] ⟨⟩ fun aG v7 i aq=>?_;simp only[fzw];clear aq;replace l:=l.trans i;clear i;replace G:=G.trans l;replace K:=K.gr l;replace I:=fun k=>(I k).gr l;replace C:=C.gr l;replace SS:=SS.gr l;clear l
    go_wp2_with fail
    go_ret
    exact⟨rfl,G⟩
  | true=>
   by_cases hbS:bl (y+pN k)≤8*szN k
   ·obtain⟨S,hS⟩:=exl (y+pN k);rw[hS]at hbS;have aO:=pN_bd k X Y;have hz:=szN_le k
    have aa:S<M:=by omega
    have aj:dl S≤50000:=by have:=dl_M S aa;omega
    have aY:dl x≤50000:=by have:=dl_M x oP.lt.1;omega
    have aM:=szN_bl aJ.1
    have ak:Hid (∀p n q m w,Sl w p y→Sl w q (pN k)→Calls prog 25 #[.slice p (dl y) n,.slice q (dl (pN k)) m] w (Nm S w)):=fun p n q m w sp sq=>by
     have t:=radd_any y (pN k) n m p q w sp sq (by have:=dl_M y oP.lt.2;omega) (by have:=dl_M (pN k) (pN_M k);omega)
     rwa [hS]at t
    have ag:onB k x S false=false:=by
     simp[onB,show ¬S<pN k by omega]
    obtain⟨tx,au⟩:∃t:ByteArray,⟨(bs (szN k) x).toArray⟩=t:=⟨_,rfl⟩;obtain⟨Z,ah⟩:∃t:ByteArray,⟨(bs (szN k) S).toArray⟩=t:=⟨_,rfl⟩
    have aQ:Hid (∀w,Cg 12 #[.int .i64 k,.string (⟨#[4]⟩++tx++Z)] w (.tuple #[.agg (pnt 0 0 false),.int .i64 2101])):=fun w=>by
     have t:=sget_any X Y (4 :: (bs (szN k) x++bs (szN k) S)) (gtL_off (bn_bs _ _ ((bl_le _ _).1 aM)) (bn_bs _ _ ((bl_le _ _).1 hbS)) ag) w
     rwa [show (⟨(4 :: (bs (szN k) x++bs (szN k) S)).toArray⟩:ByteArray)=⟨#[4]⟩++tx++Z by rw[←au,←ah,app_tx [4],app_tx];rfl]at t
    have aR:Hid (∀w,Cg 11 #[.int .i64 k,.agg (pnt x S false),.bool false] w (.tuple #[.string ⟨#[]⟩,.int .i64 2101])):=fun w=>sput_off X Y oP.lt.1 aa ag false w
    have aS:Hid (∀w,Cg 28 #[.int .i64 k,.agg (pnt x S false)] w (.bool false)):=fun w=>by
     have t:=on13_yes k X Y x S false oP.lt.1 aa w
     rwa [ag]at t
    have z2:1+tx.size≤9223372036854775807:=by rw[←au,sz_tx,bs_length];omega
    have z3:1+tx.size+Z.size≤9223372036854775807:=by rw[←au,←ah,sz_tx,sz_tx,bs_length,bs_length];omega
    clear ag
    go_enter func8,ntmps8
    go_upto_region 4 with (first
     | (go_at_call 14;refine(ae.out _).mono ?_;rintro e WA ⟨rfl,GA⟩)
     | (go_at_call 10;refine(ac.out _).mono ?_;rintro e WB ⟨J,rfl,I,GB⟩))
    obtain⟨e9,V⟩:=exl (WB.heap.size);simp only[V]
    refine gen_w (fun v=>Gr w v∧Vr v e9 (crA (k:Int) (nN k) J)∧∀j,Sl v (J j).1 (nN k j)) ?_ ?_
    ·subst V;exact⟨(GA.trans GB).alloc _,Vr.new _ _ _,fun j=>(I j).gr ((Gr.refl _).alloc _)⟩
    clear V GA GB I ae ac hu av aw ax ay az aA u0 k0 k1;rintro v0 ⟨G,K,I⟩;refine wp_v true [.c (.agg (crA (k:Int) (nN k) J)),.c (.int .u64 n),.N n,.n (n),.c (.agg (crA (k:Int) (nN k) J)),.pt (xN k) (yN k) false,.pt (x) (y) false,.a,.u] [0,2,3,4,5,6] [⟨7,8,44,ptA none 0 0 none 0 0 false,fun A=>ptA (A 6 0).1 (x) (A 6 0).2 (A 6 1).1 (y) (A 6 1).2 false⟩] ⟨.g 31 0 K rfl,.z (one_any _ wn),.k _ fun A U i L=>RtW.of_n (fm_any (lt_M _ wn)),.g 31 0 K rfl,.k _ fun A U i L=>RtW.of_pt (rg_any J _ (fun j=>(I j).gr i)),.k (fun A =>#[.agg (crA (k:Int) (nN k) J),.slice (A 3 0).1 (dl (n)) (A 3 0).2,.agg (ptA (A 5 0).1 (xN k) (A 5 0).2 (A 5 1).1 (yN k) (A 5 1).2 false)]) fun A U i L=>RtW.of_pt (rtm X Y aB hP J (fun j=>(I j).gr i) (L 3 rfl) (L 5 rfl).1 (L 5 rfl).2),⟨⟩⟩ ⟨.mk (fun _ _ h=>Value.agg.inj (h 6 rfl)) (fun _ v b H F=>by dsimp only at H ⊢;simp[go_sem,exI,H,F]) zPt ⟨fkc,fkc,fkc,fkn bPt,fkc,fkp bPt,fkp bPt,fka,fku,trivial⟩,⟨⟩⟩ fun d v1 i h4 af=>?_;simp only[fzw,Kw.a];obtain⟨B,C⟩:Sl v1 (d 6 0).1 (x)∧Sl v1 (d 6 1).1 (y):=h4 6;obtain⟨⟨ar,D⟩,-⟩:(v0.heap.size≤(d 7 0).2∧Vr v1 (d 7 0).2 (ptA (d 6 0).1 (x) (d 6 0).2 (d 6 1).1 (y) (d 6 1).2 false))∧True:=af;clear h4;have Q:=i;clear i
    go_upto_region 5 with fail
    refine wp_wS [.T,.F,.F,.c (pv ((d 7 0).2) 2),.F,.F] [4] ⟨.o 4 2 D rfl rfl,⟨⟩⟩ fun aI v2 i h5=>?_;simp only[fzw];clear h5;replace Q:=Q.trans i;have R:=i;clear i
    go_upto_region 7 with fail
    refine wp_w [.c (pv ((d 7 0).2) 0),.c (.slice (d 6 0).1 (dl (x)) (d 6 0).2),.c (pv ((d 7 0).2) 1),.c (.slice (d 6 1).1 (dl (y)) (d 6 1).2),.c (.slice (d 6 0).1 (dl (x)) (d 6 0).2),.c (.slice (d 6 1).1 (dl (y)) (d 6 1).2)] [1,3] ⟨.o 29 0 (D.gr R) rfl rfl,.o 29 1 (D.gr R) rfl rfl,⟨⟩⟩ fun aT v3 i h7=>?_;simp only[fzw];clear h7;replace Q:=Q.trans i;replace R:=R.trans i;clear i
    go_upto_region 8 with fail
    refine wp_wS [.T] [] ⟨⟩ fun aU v4 i h8=>?_;simp only[fzw];clear h8;replace Q:=Q.trans i;replace R:=R.trans i;clear i;replace G:=G.trans Q;replace K:=K.gr Q;replace I:=fun k=>(I k).gr Q;replace D:=D.gr R;replace B:=B.gr R;replace C:=C.gr R;clear Q R
    have k1:v4.cell? ⟨e9,1,none⟩=some (.slice (J 0).1 (dl (pN k)) (J 0).2):=by rw[K.cell];rfl
    go_upto_region 11 with (go_at_call 25;refine(ak.out _ _ _ _ _ C (I 0)).mono ?_;rintro e u2 ⟨pS,nS,rfl,SS,GU⟩)
    clear k1;replace G:=G.trans GU;replace K:=K.gr GU;replace B:=B.gr GU;replace I:=fun j=>(I j).gr GU;clear GU
    go_upto_region 11 with fail
    refine wp_wS [.c (.slice (d 6 0).1 (dl (x)) (d 6 0).2),.c (.agg (crA (k:Int) (nN k) J)),.c (.int .i64 (szN k:Int)),.c (.tuple #[.string tx,.bool true]),.c (.tuple #[.string tx,.bool true]),.c (.string tx),.T,.c (.string tx),.T] [1,2,3] ⟨.g 31 0 K rfl,.k _ fun A U i L=>RtW.of_c (rsize_yes k X Y J _ (fun j=>(I j).gr i)),.k (fun A =>#[.slice (d 6 0).1 (dl (x)) (d 6 0).2,.int .i64 (szN k:Int)]) fun A U i L=>RtW.of_c (Rt.c (au▸rbytes_any x _ (szN k) _ _ (B.gr i) aY hz aM)),⟨⟩⟩ fun aD v5 i ao=>?_;simp only[fzw];clear ao;have l:=i;clear i
    go_upto_region 12 with fail
    refine wp_wS [.c (.slice pS (dl (S)) nS),.c (.agg (crA (k:Int) (nN k) J)),.c (.int .i64 (szN k:Int)),.c (.tuple #[.string Z,.bool true]),.c (.tuple #[.string Z,.bool true]),.c (.string Z),.T,.c (.string Z),.T] [1,2,3] ⟨.g 31 0 (K.gr l) rfl,.k _ fun A U i L=>RtW.of_c (rsize_yes k X Y J _ (fun j=>(I j).gr (l.trans i))),.k (fun A =>#[.slice pS (dl (S)) nS,.int .i64 (szN k:Int)]) fun A U i L=>RtW.of_c (Rt.c (ah▸rbytes_any S _ (szN k) _ _ (SS.gr (l.trans i)) aj hz hbS)),⟨⟩⟩ fun aE v6 i ap=>?_;simp only[fzw];clear ap;replace l:=l.trans i;clear i
    go_upto_region 13 with fail
    refine wp_wS [.T,.F,.F,.T,.F,.F] [] ⟨⟩ fun aG v7 i aq=>?_;simp only[fzw];clear aq;replace l:=l.trans i;clear i
    go_upto_region 15 with fail
    refine wp_v false [.c (pv e9 0),.c (.int .i64 k),.c (.string tx),.c (.string (⟨#[4]⟩++tx)),.c (.string Z),.c (.string (⟨#[4]⟩++tx++Z)),.c (.tuple #[.agg (pnt 0 0 false),.int .i64 2101]),.c (.tuple #[.agg (pnt 0 0 false),.int .i64 2101]),.c (.agg (pnt 0 0 false)),.c (.int .i64 2101),.a,.u,.c (.int .i64 2101)] [1,3,5,6] [⟨10,11,27,pnt 0 0 false,fun _=>pnt 0 0 false⟩] ⟨.o 3 0 (K.gr l) rfl rfl,.s (.binOp .add 9 (.const (.string { data :=#[4] })) (.const (.string tx)) 9) rfl fun U i=>by simp[go_sem,exI,z2],.s (.binOp .add 9 (.const (.string (⟨#[4]⟩++tx))) (.const (.string Z)) 9) rfl fun U i=>by simp[go_sem,exI,z3],.z aQ.out,⟨⟩⟩ ⟨.k zPnt (.t rfl),⟨⟩⟩ fun ai v8 i aV aH=>?_;simp only[fzw,Kw.a];obtain⟨⟨aL,W⟩,-⟩:(v7.heap.size≤(ai 10 0).2∧Vr v8 (ai 10 0).2 (pnt 0 0 false))∧True:=aH;clear aV;replace l:=l.trans i;clear i
    go_upto_region 16 with fail
    refine wp_w [.c (pv e9 0),.c (.int .i64 k),.c (.slice (d 6 0).1 (dl (x)) (d 6 0).2),.N x,.c (.slice pS (dl (S)) nS),.N S,.c (.agg (pnt x S false)),.c (.tuple #[.string ⟨#[]⟩,.int .i64 2101]),.c (.tuple #[.string ⟨#[]⟩,.int .i64 2101]),.c (.string ⟨#[]⟩),.c (.int .i64 2101),.c (.string ⟨#[]⟩),.c (.int .i64 2101)] [1,3,5,7] ⟨.o 3 0 (K.gr l) rfl rfl,.k (fun A =>#[.slice (d 6 0).1 (dl (x)) (d 6 0).2]) fun A U i L=>RtW.of_c (nt_any (B.gr (l.trans i))),.k (fun A =>#[.slice pS (dl (S)) nS]) fun A U i L=>RtW.of_c (nt_any (SS.gr (l.trans i))),.z aR.out,⟨⟩⟩ fun a1 v9 i aW=>?_;simp only[fzw];clear aW;replace l:=l.trans i;have ab:=i;clear i
    go_upto_region 17 with fail
    refine wp_w [.c (.int .i64 2101),.c (.int .i64 2101),.T,.T,.c (.agg (pnt 0 0 false)),.c (.agg (pnt 0 0 false)),.T,.T,.T,.c (.int .i64 2101),.c (.int .i64 2101),.T,.T,.T,.c (pv e9 0),.c (.int .i64 k),.c (.slice (d 6 0).1 (dl (x)) (d 6 0).2),.N x,.c (.slice pS (dl (S)) nS),.N S,.c (.agg (pnt x S false)),.F,.T,.T,.T] [1,4,6,10,15,17,19,21] ⟨.y (num_any _),.g 27 0 (W.gr ab) rfl,.s (.binOp .eql 27 (.const (.agg (pnt 0 0 false))) (.const (.agg (pnt 0 0 false))) 27) rfl fun U i=>by simp[go_sem,exI,eqPn,eqN_self],.y (num_any _),.o 3 0 (K.gr l) rfl rfl,.k (fun A =>#[.slice (d 6 0).1 (dl (x)) (d 6 0).2]) fun A U i L=>RtW.of_c (nt_any (B.gr (l.trans i))),.k (fun A =>#[.slice pS (dl (S)) nS]) fun A U i L=>RtW.of_c (nt_any (SS.gr (l.trans i))),.z aS.out,⟨⟩⟩ fun a2 a3 i aX=>?_;simp only[fzw];clear aX;replace l:=l.trans i;replace ab:=ab.trans i;clear i;replace G:=G.trans l;replace K:=K.gr l;replace I:=fun k=>(I k).gr l;replace B:=B.gr l;replace SS:=SS.gr l;replace W:=W.gr ab;clear l ab
    go_wp2_with fail
    go_ret
    exact⟨rfl,G⟩
   ·obtain⟨S,hS⟩:=exl (y+pN k);rw[hS]at hbS;have aO:=pN_bd k X Y;have hz:=szN_le k
    have aa:S<M:=by omega
    have aj:dl S≤50000:=by have:=dl_M S aa;omega
    have aY:dl x≤50000:=by have:=dl_M x oP.lt.1;omega
    have aM:=szN_bl aJ.1
    have ak:Hid (∀p n q m w,Sl w p y→Sl w q (pN k)→Calls prog 25 #[.slice p (dl y) n,.slice q (dl (pN k)) m] w (Nm S w)):=fun p n q m w sp sq=>by
     have t:=radd_any y (pN k) n m p q w sp sq (by have:=dl_M y oP.lt.2;omega) (by have:=dl_M (pN k) (pN_M k);omega)
     rwa [hS]at t
    obtain⟨tx,au⟩:∃t:ByteArray,⟨(bs (szN k) x).toArray⟩=t:=⟨_,rfl⟩
    go_enter func8,ntmps8
    go_upto_region 4 with (first
     | (go_at_call 14;refine(ae.out _).mono ?_;rintro e WA ⟨rfl,GA⟩)
     | (go_at_call 10;refine(ac.out _).mono ?_;rintro e WB ⟨J,rfl,I,GB⟩))
    obtain⟨e9,V⟩:=exl (WB.heap.size);simp only[V]
    refine gen_w (fun v=>Gr w v∧Vr v e9 (crA (k:Int) (nN k) J)∧∀j,Sl v (J j).1 (nN k j)) ?_ ?_
    ·subst V;exact⟨(GA.trans GB).alloc _,Vr.new _ _ _,fun j=>(I j).gr ((Gr.refl _).alloc _)⟩
    clear V GA GB I ae ac hu av aw ax ay az aA u0 k0 k1;rintro v0 ⟨G,K,I⟩;refine wp_v true [.c (.agg (crA (k:Int) (nN k) J)),.c (.int .u64 n),.N n,.n (n),.c (.agg (crA (k:Int) (nN k) J)),.pt (xN k) (yN k) false,.pt (x) (y) false,.a,.u] [0,2,3,4,5,6] [⟨7,8,44,ptA none 0 0 none 0 0 false,fun A=>ptA (A 6 0).1 (x) (A 6 0).2 (A 6 1).1 (y) (A 6 1).2 false⟩] ⟨.g 31 0 K rfl,.z (one_any _ wn),.k _ fun A U i L=>RtW.of_n (fm_any (lt_M _ wn)),.g 31 0 K rfl,.k _ fun A U i L=>RtW.of_pt (rg_any J _ (fun j=>(I j).gr i)),.k (fun A =>#[.agg (crA (k:Int) (nN k) J),.slice (A 3 0).1 (dl (n)) (A 3 0).2,.agg (ptA (A 5 0).1 (xN k) (A 5 0).2 (A 5 1).1 (yN k) (A 5 1).2 false)]) fun A U i L=>RtW.of_pt (rtm X Y aB hP J (fun j=>(I j).gr i) (L 3 rfl) (L 5 rfl).1 (L 5 rfl).2),⟨⟩⟩ ⟨.mk (fun _ _ h=>Value.agg.inj (h 6 rfl)) (fun _ v b H F=>by dsimp only at H ⊢;simp[go_sem,exI,H,F]) zPt ⟨fkc,fkc,fkc,fkn bPt,fkc,fkp bPt,fkp bPt,fka,fku,trivial⟩,⟨⟩⟩ fun d v1 i h4 af=>?_;simp only[fzw,Kw.a];obtain⟨B,C⟩:Sl v1 (d 6 0).1 (x)∧Sl v1 (d 6 1).1 (y):=h4 6;obtain⟨⟨ar,D⟩,-⟩:(v0.heap.size≤(d 7 0).2∧Vr v1 (d 7 0).2 (ptA (d 6 0).1 (x) (d 6 0).2 (d 6 1).1 (y) (d 6 1).2 false))∧True:=af;clear h4;have Q:=i;clear i
    go_upto_region 5 with fail
    refine wp_wS [.T,.F,.F,.c (pv ((d 7 0).2) 2),.F,.F] [4] ⟨.o 4 2 D rfl rfl,⟨⟩⟩ fun aI v2 i h5=>?_;simp only[fzw];clear h5;replace Q:=Q.trans i;have R:=i;clear i
    go_upto_region 7 with fail
    refine wp_w [.c (pv ((d 7 0).2) 0),.c (.slice (d 6 0).1 (dl (x)) (d 6 0).2),.c (pv ((d 7 0).2) 1),.c (.slice (d 6 1).1 (dl (y)) (d 6 1).2),.c (.slice (d 6 0).1 (dl (x)) (d 6 0).2),.c (.slice (d 6 1).1 (dl (y)) (d 6 1).2)] [1,3] ⟨.o 29 0 (D.gr R) rfl rfl,.o 29 1 (D.gr R) rfl rfl,⟨⟩⟩ fun aT v3 i h7=>?_;simp only[fzw];clear h7;replace Q:=Q.trans i;replace R:=R.trans i;clear i
    go_upto_region 8 with fail
    refine wp_wS [.T] [] ⟨⟩ fun aU v4 i h8=>?_;simp only[fzw];clear h8;replace Q:=Q.trans i;replace R:=R.trans i;clear i;replace G:=G.trans Q;replace K:=K.gr Q;replace I:=fun k=>(I k).gr Q;replace D:=D.gr R;replace B:=B.gr R;replace C:=C.gr R;clear Q R
    have k1:v4.cell? ⟨e9,1,none⟩=some (.slice (J 0).1 (dl (pN k)) (J 0).2):=by rw[K.cell];rfl
    go_upto_region 11 with (go_at_call 25;refine(ak.out _ _ _ _ _ C (I 0)).mono ?_;rintro e u2 ⟨pS,nS,rfl,SS,GU⟩)
    clear k1;replace G:=G.trans GU;replace K:=K.gr GU;replace B:=B.gr GU;replace I:=fun j=>(I j).gr GU;clear GU
    go_upto_region 11 with fail
    refine wp_wS [.c (.slice (d 6 0).1 (dl (x)) (d 6 0).2),.c (.agg (crA (k:Int) (nN k) J)),.c (.int .i64 (szN k:Int)),.c (.tuple #[.string tx,.bool true]),.c (.tuple #[.string tx,.bool true]),.c (.string tx),.T,.c (.string tx),.T] [1,2,3] ⟨.g 31 0 K rfl,.k _ fun A U i L=>RtW.of_c (rsize_yes k X Y J _ (fun j=>(I j).gr i)),.k (fun A =>#[.slice (d 6 0).1 (dl (x)) (d 6 0).2,.int .i64 (szN k:Int)]) fun A U i L=>RtW.of_c (Rt.c (au▸rbytes_any x _ (szN k) _ _ (B.gr i) aY hz aM)),⟨⟩⟩ fun aD v5 i ao=>?_;simp only[fzw];clear ao;have l:=i;clear i
    go_upto_region 12 with fail
    refine wp_wS [.c (.slice pS (dl (S)) nS),.c (.agg (crA (k:Int) (nN k) J)),.c (.int .i64 (szN k:Int)),.c (.tuple #[.string ⟨#[]⟩,.bool false]),.c (.tuple #[.string ⟨#[]⟩,.bool false]),.c (.string ⟨#[]⟩),.F,.c (.string ⟨#[]⟩),.F] [1,2,3] ⟨.g 31 0 (K.gr l) rfl,.k _ fun A U i L=>RtW.of_c (rsize_yes k X Y J _ (fun j=>(I j).gr (l.trans i))),.k (fun A =>#[.slice pS (dl (S)) nS,.int .i64 (szN k:Int)]) fun A U i L=>RtW.of_c (Rt.c (rbytes_no S _ (szN k) _ _ (SS.gr (l.trans i)) aj (.inr (.inr (by omega))))),⟨⟩⟩ fun aE v6 i ap=>?_;simp only[fzw];clear ap;replace l:=l.trans i;clear i
    go_upto_region 13 with fail
    refine wp_wS [.T,.F,.F,.F,.T,.T] [] ⟨⟩ fun aG v7 i aq=>?_;simp only[fzw];clear aq;replace l:=l.trans i;clear i;replace G:=G.trans l;replace K:=K.gr l;replace I:=fun k=>(I k).gr l;replace B:=B.gr l;replace SS:=SS.gr l;clear l
    go_wp2_with fail
    go_ret
    exact⟨rfl,G⟩
end
end
end Go.Proofs.YtiigakdbabijhaaGreat