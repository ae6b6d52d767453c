import Derived.Test.YtiigakdbabijhaaGreatXALZBack
namespace Go.Proofs.YtiigakdbabijhaaGreat
open Go.RowKit Go.Proofs.Tryz
set_option maxRecDepth 100000
set_option maxHeartbeats 8000000
section
attribute [local go_sem ↓] uz1
attribute [local go_sem] uz2
section
theorem ne_cell{w:World}{g:Nat}{v:Value}(h:w.cell? ⟨g,0,none⟩=some v):blk w g ≠ #[]:=fun e=>by
 rw[cell_blk,e]at h
 cases h
theorem cvT_cells{w:World}{g cap:Nat}{l:List UInt8}(h:∀i,i<l.length→w.cell? ⟨g,i,none⟩=some (uF l i)):(cvT (.slice (some ⟨g,0,none⟩) l.length cap)).run prog w=.ok (.string ⟨l.toArray⟩) w:=by
 rw[←nums_tx];refine run_convert_bytes_arg w 57 5 underlying57 underlying5 g 0 l.length cap _ (by simp) (fun i d=>?_) 9 underlying9;rw[Nat.zero_add,h i d,uF];simp[d]
theorem ng_odd{k x y:Nat}(h1:1≤k)(h2:k≤15)(h:OnQ k (x,y,false)):∃u,ngQ k (x,y,false)=(x,u,false)∧u%2=1-y%2:=by
 haveI:=EC.nzP k h1 h2
 have l:=pN_bd k h1 h2;obtain⟨d,f⟩:=ysN_of h1 h2 h rfl;dsimp only at d f;obtain⟨-,-,q,v,A,-⟩:=isY_spec h1 h2 d
 have i:x<pN k∧y<pN k:=by
  have h:=h;simp only[OnQ,onB,Bool.false_eq_true,if_false,Bool.and_eq_true,decide_eq_true_eq]at h;exact⟨h.1,h.2.1⟩
 have j:0<y:=by
  have e:=f;simp only[ysN]at e
  split at e <;> omega
 refine⟨pN k-y,?_,by omega⟩;rw[ngQ_is h1 h2]
 show (x%pN k,(0-Fin.ofNat (pN k) y:Fin (pN k)).val,false)=_
 rw[Nat.mod_eq_of_lt i.1,Fin.sub_def]
 show (x,(pN k-y%pN k+0%pN k)%pN k,false)=_
 rw[Nat.mod_eq_of_lt i.2,Nat.zero_mod,Nat.add_zero,Nat.mod_eq_of_lt (by omega)]
theorem rng{k x y u:Nat}(h1:1≤k)(h2:k≤15)(h:OnQ k (x,y,false))(hN:ngQ k (x,y,false)=(x,u,false))(qc:Nat→Option Addr×Nat){p q:Option Addr}{n m:Nat}{w:World}(HQ:∀j,Sl w (qc j).1 (nN k j))(Sx:Sl w p x)(Sy:Sl w q y):
 Calls prog 24 #[.agg (crA (k:Int) (nN k) qc),.agg (ptA p x n q y m false)] w (Rt (.pt x u false) w):=by
 have t:=rnegQ k h1 h2 qc h HQ Sx Sy (n:=n) (m:=m);rw[hN]at t;exact t
attribute [local go_sem] uz8
attribute [local go_sem ↓] cvT_is cvU_is bsl_is loadC_is storeC_is loadPt_is storePt_is zvPt_is buildPt_is loadPn_is storePn_is zvPn_is loadCu_is storeCu_is zvCu_is buildCu_is buildPn_is Go.wp_at_zero Go.wp_at_succ
attribute [local go_sem] uz14
theorem lzboth_any(id:Int){n:Nat}(wn:n<18446744073709551616)(w:World):Cg 6 #[.int .i64 id,.int .u64 n] w (.bool true):=by
 obtain⟨u,hu,Z,hk⟩:=idx_conv id;have ao:=idx_bd id;obtain⟨k,ap⟩:=exl (idx id);rw[ap]at hk ao;obtain⟨Q,R⟩:=ao
 have u0:(0:Int)≤u:=by omega
 have aq:(1:Int)+u%15=k:=by omega
 have ar:IntKind.i64.wrap ((u:Int)%15)=(u:Int)%15:=by rw[IntKind.wrap_i64];omega
 have au:IntKind.u64.wrap ((u:Int)%15)=(u:Int)%15:=by rw[IntKind.wrap_u64];omega
 have av:(u:Int).tmod 15=(u:Int)%15:=by rw[Int.tmod_eq_emod_of_nonneg (by omega)]
 have k0:(1:Int)≤k:=by omega
 have k1:(k:Int)≤15:=by omega
 have aw:id%18446744073709551616=(u:Int):=by rw[←hu,IntKind.wrap_u64]
 clear ap hk;have aa:Hid (∀w,Calls prog 10 #[.int .i64 k] w (GetQ k w)):=fun w=>getq_yes k Q R w;have ab:Hid (∀w,Cg 14 #[] w (.bool true)):=fun w=>awake21_any w;obtain⟨P,hP⟩:=exl (mlQ k n (gQ k));have oP:OnQ k P:=hP▸mlQ_on Q R _ (gQ_on Q R)
 have ax:dl n≤400:=by have:=dl_M n (lt_M _ wn);omega
 obtain⟨x,y,f⟩:=P
 cases f with
 | true=>
  go_enter func6,ntmps6
  go_upto_region 4 with (first
   | (go_at_call 14;refine(ab.out _).mono ?_;rintro e WA ⟨rfl,GA⟩)
   | (go_at_call 10;refine(aa.out _).mono ?_;rintro e WB ⟨L,rfl,I,GB⟩))
  obtain⟨e9,U⟩:=exl (WB.heap.size);simp only[U]
  refine gen_w (fun v=>Gr w v∧Vr v e9 (crA (k:Int) (nN k) L)∧∀j,Sl v (L j).1 (nN k j)) ?_ ?_
  ·subst U;exact⟨(GA.trans GB).alloc _,Vr.new _ _ _,fun j=>(I j).gr ((Gr.refl _).alloc _)⟩
  clear U GA GB I ab aa hu Z aq ar au av aw u0 k0 k1;rintro v0 ⟨G,J,I⟩;refine wp_v true [.c (.agg (crA (k:Int) (nN k) L)),.c (.int .u64 n),.N n,.n (n),.c (.agg (crA (k:Int) (nN k) L)),.pt (xN k) (yN k) false,.pt (x) (y) true,.c (.agg (pnt x y true)),.a,.u] [0,2,3,4,5,6,7] [⟨8,9,27,pnt 0 0 false,fun _=>pnt x y true⟩] ⟨.g 31 0 J rfl,.z (one_any _ wn),.k _ fun q K h H=>RtW.of_n (fm_any (lt_M _ wn)),.g 31 0 J rfl,.k _ fun q K h H=>RtW.of_pt (rg_any L _ (fun j=>(I j).gr h)),.k (fun q =>#[.agg (crA (k:Int) (nN k) L),.slice (q 3 0).1 (dl (n)) (q 3 0).2,.agg (ptA (q 5 0).1 (xN k) (q 5 0).2 (q 5 1).1 (yN k) (q 5 1).2 false)]) fun q K h H=>RtW.of_pt (rtm Q R ax hP L (fun j=>(I j).gr h) (H 3 rfl) (H 5 rfl).1 (H 5 rfl).2),.k (fun q =>#[.agg (ptA (q 6 0).1 (x) (q 6 0).2 (q 6 1).1 (y) (q 6 1).2 true)]) fun q K h H=>RtW.of_c (Rt.c (rout_any _ _ _ _ _ _ _ _ (H 6 rfl).1 (H 6 rfl).2)),⟨⟩⟩ ⟨.k zPnt ⟨fkc,fkc,fkc,fkn bPnt,fkc,fkp bPnt,fkp bPnt,fkc,fka,fku,trivial⟩,⟨⟩⟩ fun V v1 h h4 ah=>?_;simp only[fzw,Kw.a];obtain⟨⟨ay,l⟩,-⟩:(v0.heap.size≤(V 8 0).2∧Vr v1 (V 8 0).2 (pnt x y true))∧True:=ah;clear h4;have B:=h;clear h
  go_upto_region 5 with fail
  refine wp_wS [.T,.F,.F,.c (pv ((V 8 0).2) 18),.T,.T] [4] ⟨.o 4 18 l rfl (by exact pnt_18 _ _ _),⟨⟩⟩ fun aH v2 h h5=>?_;simp only[fzw];clear h5;replace B:=B.trans h;have S:=h;clear h;replace G:=G.trans B;replace J:=J.gr B;replace I:=fun k=>(I k).gr B;replace l:=l.gr S;clear B S
  go_wp2_with fail
  go_ret
  exact⟨rfl,G⟩
 | false=>
  obtain⟨NP,ai⟩:=exl (ngQ k (x,y,false));have oN:=ai▸ngQ_on Q R oP;obtain⟨u,az,Z⟩:∃u,ngQ k (x,y,false)=(x,u,false)∧u%2=1-y%2:=ng_odd Q R oP;rw[az]at ai;subst ai;have hz:=szN_le k;have a7:=szN_pos Q R;obtain⟨X,a8⟩:=exl (1+szN k);obtain⟨zz,aI⟩:=exl (2*szN k);obtain⟨z3,aJ⟩:=exl (1+2*szN k)
  have aK:IntKind.i64.wrap (1+(szN k:Int))=(X:Int):=by rw[IntKind.wrap_i64];omega
  have aL:IntKind.i64.wrap (2*(szN k:Int))=(zz:Int):=by rw[IntKind.wrap_i64];omega
  have aM:IntKind.i64.wrap (1+(zz:Int))=(z3:Int):=by rw[IntKind.wrap_i64];omega
  obtain⟨a,ha⟩:=exl ((⟨(putL k (x,y,false) false).toArray⟩:ByteArray));obtain⟨d,ed⟩:=exl (UInt8.ofNat (2+y%2));obtain⟨d2,aj⟩:=exl (UInt8.ofNat (2+u%2));obtain⟨b,eT⟩:∃t:ByteArray,⟨(d :: bs (szN k) x).toArray⟩=t:=⟨_,rfl⟩;obtain⟨tT,aA⟩:∃t:ByteArray,⟨(d2 :: bs (szN k) x).toArray⟩=t:=⟨_,rfl⟩;obtain⟨tx,ex⟩:∃t:ByteArray,⟨(bs (szN k) x).toArray⟩=t:=⟨_,rfl⟩
  have hn:(d :: bs (szN k) x).length=X:=by rw[List.length_cons,bs_length];omega
  have aO:(d2 :: bs (szN k) x).length=X:=by rw[List.length_cons,bs_length];omega
  have la:a.size=z3:=by rw[←ha,sz_tx,putL,cond_false,List.length_cons,List.length_append,bs_length,bs_length];omega
  have lb:b.size=X:=by rw[←eT,sz_tx,hn]
  have na:((a.size:Int) != (z3:Int))=false:=by rw[la,bne_self_eq_false]
  have nb:((b.size:Int) != (X:Int))=false:=by rw[lb,bne_self_eq_false]
  have aP:∀w,(Instr.slice 9 (.string a) (some (.int .i64 1)) (some (.int .i64 (b.size:Int))) none).run prog w=.ok (.string tx) w:=fun w=>by
   have t:=slT_mid a 1 b.size (by omega) (by omega) w;rw[←ha,ex_tx,lb,putL,cond_false,List.drop_one,List.tail_cons,List.take_left' (by rw[bs_length];omega),ex,←lb]at t;rw[←ha];exact t
  have aQ:∀w,(Instr.slice 9 (.string b) (some (.int .i64 1)) none none).run prog w=.ok (.string tx) w:=fun w=>by
   have t:=slT_hi b 1 (by omega) w
   rwa [lb,←eT,ex_tx,List.drop_one,List.tail_cons,List.take_of_length_le (by rw[bs_length];omega),ex,eT]at t
  have aR:Hid (∀w,Cg 11 #[.int .i64 k,.agg (pnt x y false),.bool false] w (.tuple #[.string a,.int .i64 0])):=fun w=>by have t:=sput_whole Q R oP w;rwa [ha]at t
  have aS:Hid (∀w,Cg 11 #[.int .i64 k,.agg (pnt x y false),.bool true] w (.tuple #[.string b,.int .i64 0])):=fun w=>by have t:=sput_short Q R oP w;rwa [show putL k (x,y,false) true=d :: bs (szN k) x from ed▸rfl,eT]at t
  have aT:Hid (∀w,Cg 12 #[.int .i64 k,.string a] w (.tuple #[.agg (pnt x y false),.int .i64 0])):=fun w=>by have t:=sget_any Q R _ (gt_put Q R oP rfl false) w;rwa [ha]at t
  have aU:Hid (∀w,Cg 12 #[.int .i64 k,.string b] w (.tuple #[.agg (pnt x y false),.int .i64 0])):=fun w=>by have t:=sget_any Q R _ (gt_put Q R oP rfl true) w;rwa [show putL k (x,y,false) true=d :: bs (szN k) x from ed▸rfl,eT]at t
  have aV:Hid (∀w,Cg 12 #[.int .i64 k,.string tT] w (.tuple #[.agg (pnt x u false),.int .i64 0])):=fun w=>by have t:=sget_any Q R _ (gt_put Q R oN rfl true) w;rwa [show putL k (x,u,false) true=d2 :: bs (szN k) x from aj▸rfl,aA]at t
  have aW:Hid (uF (d :: bs (szN k) x) 0=.int .u8 (d.toNat:Int)):=rfl;have aX:Hid (Value.int .u8 (d2.toNat:Int)=uF (d2 :: bs (szN k) x) 0):=rfl
  have aY:Hid (IntKind.u8.wrap (5-(d.toNat:Int))=(d2.toNat:Int)):=by
   show IntKind.u8.wrap (5-(d.toNat:Int))=(d2.toNat:Int)
   rw[←ed,←aj,UInt8.toNat_ofNat',UInt8.toNat_ofNat',IntKind.wrap_u8]
   omega
  clear ed aj ha ex la lb aI aJ Z
  go_enter func6,ntmps6
  go_upto_region 4 with (first
   | (go_at_call 14;refine(ab.out _).mono ?_;rintro e WA ⟨rfl,GA⟩)
   | (go_at_call 10;refine(aa.out _).mono ?_;rintro e WB ⟨L,rfl,I,GB⟩))
  obtain⟨e9,U⟩:=exl (WB.heap.size);simp only[U]
  refine gen_w (fun v=>Gr w v∧Vr v e9 (crA (k:Int) (nN k) L)∧∀j,Sl v (L j).1 (nN k j)) ?_ ?_
  ·subst U;exact⟨(GA.trans GB).alloc _,Vr.new _ _ _,fun j=>(I j).gr ((Gr.refl _).alloc _)⟩
  clear U GA GB I ab aa hu Z aq ar au av aw u0 k0 k1;rintro v0 ⟨G,J,I⟩;refine wp_v true [.c (.agg (crA (k:Int) (nN k) L)),.c (.int .u64 n),.N n,.n (n),.c (.agg (crA (k:Int) (nN k) L)),.pt (xN k) (yN k) false,.pt (x) (y) false,.c (.agg (pnt x y false)),.a,.u] [0,2,3,4,5,6,7] [⟨8,9,27,pnt 0 0 false,fun _=>pnt x y false⟩] ⟨.g 31 0 J rfl,.z (one_any _ wn),.k _ fun q K h H=>RtW.of_n (fm_any (lt_M _ wn)),.g 31 0 J rfl,.k _ fun q K h H=>RtW.of_pt (rg_any L _ (fun j=>(I j).gr h)),.k (fun q =>#[.agg (crA (k:Int) (nN k) L),.slice (q 3 0).1 (dl (n)) (q 3 0).2,.agg (ptA (q 5 0).1 (xN k) (q 5 0).2 (q 5 1).1 (yN k) (q 5 1).2 false)]) fun q K h H=>RtW.of_pt (rtm Q R ax hP L (fun j=>(I j).gr h) (H 3 rfl) (H 5 rfl).1 (H 5 rfl).2),.k (fun q =>#[.agg (ptA (q 6 0).1 (x) (q 6 0).2 (q 6 1).1 (y) (q 6 1).2 false)]) fun q K h H=>RtW.of_c (Rt.c (rout_any _ _ _ _ _ _ _ _ (H 6 rfl).1 (H 6 rfl).2)),⟨⟩⟩ ⟨.k zPnt ⟨fkc,fkc,fkc,fkn bPnt,fkc,fkp bPnt,fkp bPnt,fkc,fka,fku,trivial⟩,⟨⟩⟩ fun V v1 h h4 ah=>?_;simp only[fzw,Kw.a];obtain⟨⟨ay,l⟩,-⟩:(v0.heap.size≤(V 8 0).2∧Vr v1 (V 8 0).2 (pnt x y false))∧True:=ah;clear h4;have B:=h;clear h
  go_upto_region 5 with fail
  refine wp_wS [.T,.F,.F,.c (pv ((V 8 0).2) 18),.F,.F] [4] ⟨.o 4 18 l rfl (by exact pnt_18 _ _ _),⟨⟩⟩ fun aH v2 h h5=>?_;simp only[fzw];clear h5;replace B:=B.trans h;have S:=h;clear h
  go_upto_region 7 with fail
  refine wp_wS [.c (pv e9 0),.c (.int .i64 k),.c (.agg (pnt x y false)),.E (.string a),.E (.string a),.c (.string a),.O,.c (.string a),.O] [1,2,3] ⟨.o 3 0 (J.gr B) rfl rfl,.g 27 0 (l.gr S) rfl,.z aR.out,⟨⟩⟩ fun a9 v3 h h7=>?_;simp only[fzw];clear h7;replace B:=B.trans h;replace S:=S.trans h;clear h
  go_upto_region 8 with fail
  refine wp_wS [.c (pv e9 0),.c (.int .i64 k),.c (.agg (pnt x y false)),.E (.string b),.E (.string b),.c (.string b),.O,.c (.string b),.O] [1,2,3] ⟨.o 3 0 (J.gr B) rfl rfl,.g 27 0 (l.gr S) rfl,.z aS.out,⟨⟩⟩ fun ba v4 h h8=>?_;simp only[fzw];clear h8;replace B:=B.trans h;replace S:=S.trans h;clear h
  go_upto_region 9 with fail
  refine wp_w [.O,.O,.F,.F,.O,.O,.F,.F,.F,.c (.string a),.c (.int .i64 (a.size:Int)),.c (.agg (crA (k:Int) (nN k) L)),.c (.int .i64 (szN k:Int)),.c (.int .i64 zz),.c (.int .i64 z3),.F,.F,.F,.c (.string b),.c (.int .i64 (b.size:Int)),.c (.agg (crA (k:Int) (nN k) L)),.c (.int .i64 (szN k:Int)),.c (.int .i64 X),.F,.F,.F,.c (.string a),.c (.string b),.c (.int .i64 (b.size:Int)),.c (.string tx),.c (.string b),.c (.string tx),.F,.F] [1,5,11,12,13,14,15,20,21,22,23,29,31,32] ?hs28 ?hf28
  case hs28=>
   exact⟨.y (num_any _),.y (num_any _),.g 31 0 (J.gr B) rfl,.k _ fun q K h H=>RtW.of_c (rsize_yes k Q R L _ (fun j=>(I j).gr (B.trans h))),.s (.binOp .mul 3 (.const (.int .i64 2)) (.const (.int .i64 (szN k:Int))) 3) rfl fun K h=>by simp[go_sem,exI,aL],.s (.binOp .add 3 (.const (.int .i64 1)) (.const (.int .i64 zz)) 3) rfl fun K h=>by simp[go_sem,exI,aM],.s (.binOp .neq 3 (.const (.int .i64 (a.size:Int))) (.const (.int .i64 z3)) 3) rfl fun K h=>by simp[go_sem,exI,na],.g 31 0 (J.gr B) rfl,.k _ fun q K h H=>RtW.of_c (rsize_yes k Q R L _ (fun j=>(I j).gr (B.trans h))),.s (.binOp .add 3 (.const (.int .i64 1)) (.const (.int .i64 (szN k:Int))) 3) rfl fun K h=>by simp[go_sem,exI,aK],.s (.binOp .neq 3 (.const (.int .i64 (b.size:Int))) (.const (.int .i64 X)) 3) rfl fun K h=>by simp[go_sem,exI,nb],.s (.slice 9 (.const (.string a)) (some (.const (.int .i64 1))) (some (.const (.int .i64 (b.size:Int)))) none) rfl fun K h=>by simp[go_sem,exI,aP],.s (.slice 9 (.const (.string b)) (some (.const (.int .i64 1))) none none) rfl fun K h=>by simp[go_sem,exI,aQ],.s (.binOp .neq 9 (.const (.string tx)) (.const (.string tx)) 9) rfl fun K h=>by simp[go_sem,exI],⟨⟩⟩
  intro bb v5 h h9;simp only[fzw];clear h9;replace B:=B.trans h;replace S:=S.trans h;clear h
  go_upto_region 11 with fail
  refine wp_v false [.c (pv e9 0),.c (.int .i64 k),.c (.string a),.E (.agg (pnt x y false)),.E (.agg (pnt x y false)),.c (.agg (pnt x y false)),.O,.a,.u,.O] [1,3] [⟨7,8,27,pnt 0 0 false,fun _=>pnt x y false⟩] ⟨.o 3 0 (J.gr B) rfl rfl,.z aT.out,⟨⟩⟩ ⟨.k zPnt (.t rfl),⟨⟩⟩ fun ae v6 h aZ aB=>?_;simp only[fzw,Kw.a];obtain⟨⟨a0,A⟩,-⟩:(v5.heap.size≤(ae 7 0).2∧Vr v6 (ae 7 0).2 (pnt x y false))∧True:=aB;clear aZ;replace B:=B.trans h;replace S:=S.trans h;clear h
  go_upto_region 12 with fail
  refine wp_v false [.c (pv e9 0),.c (.int .i64 k),.c (.string b),.E (.agg (pnt x y false)),.E (.agg (pnt x y false)),.c (.agg (pnt x y false)),.O,.a,.u,.O] [1,3] [⟨7,8,27,pnt 0 0 false,fun _=>pnt x y false⟩] ⟨.o 3 0 (J.gr B) rfl rfl,.z aU.out,⟨⟩⟩ ⟨.k zPnt (.t rfl),⟨⟩⟩ fun af v7 h a1 aC=>?_;simp only[fzw,Kw.a];obtain⟨⟨a2,C⟩,-⟩:(v6.heap.size≤(af 7 0).2∧Vr v7 (af 7 0).2 (pnt x y false))∧True:=aC;clear a1;replace B:=B.trans h;replace S:=S.trans h;have aD:=h;clear h;replace G:=G.trans B;replace J:=J.gr B;replace I:=fun k=>(I k).gr B;replace l:=l.gr S;replace A:=A.gr aD;clear aD B S;obtain⟨gR,eR⟩:=exl (v7.heap.size);obtain⟨cap,wU,ac,hR,gU⟩:=cvU_run v7 (d :: bs (szN k) x);rw[eT,hn,eR]at ac;rw[hn,eR]at hR
  go_upto_region 14 with fail
  clear ac
  have k0:wU.cell? ⟨gR,0,none⟩=some (.int .u8 (d.toNat:Int)):=by rw[hR.cell 0 (by omega),aW.out]
  have z0:wU.frozen? ⟨gR,0,none⟩=false:=(hR.room 0 (by have:=hR.le;omega)).2
  have i0:(0:Int)<X:=by omega
  have bc:=aY.out
  go_upto_region 15 with fail
  refine gen_w (fun ww=>Gr v7 ww∧∀i,i<X→ww.cell? ⟨gR,i,none⟩=some (uF (d2 :: bs (szN k) x) i)) ⟨by rw[setCell_setBlk];exact gr_setNew gU (by omega),fun i hi=>?_⟩ ?_
  ·rw[setCell_setBlk,cell_blk,blk_setBlk _ _ _ (Array.size_pos_iff.2 (ne_cell k0)),Array.getElem?_setIfInBounds]
   by_cases e:0=i
   ·subst e;rw[if_pos rfl,if_pos (Array.size_pos_iff.2 (ne_cell k0)),aX.out]
   ·rw[if_neg e,←cell_blk,hR.cell i hi];obtain⟨j,rfl⟩:∃j,i=j+1:=⟨i-1,by omega⟩
    rfl
  clear k0 z0 hR gU eR;rintro uT ⟨gT,hC⟩;replace G:=G.trans gT;replace J:=J.gr gT;replace l:=l.gr gT;replace A:=A.gr gT;replace C:=C.gr gT;replace I:=fun j=>(I j).gr gT;clear gT
  have ac:(cvT (.slice (some ⟨gR,0,none⟩) X cap)).run prog uT=.ok (.string tT) uT:=by
   have t:=cvT_cells (cap:=cap) (fun i hi=>hC i (by omega))
   rwa [aO,aA]at t
  have k9:uT.cell? ⟨e9,0,none⟩=some (.int .i64 k):=by rw[J.cell];rfl
  go_upto_region 16 with (go_at_call 12;refine(aV.out _).mono ?_;rintro e wB ⟨rfl,Y⟩)
  clear ac k9 hC;obtain⟨e8,ak⟩:=exl (wB.heap.size);simp only[ak];refine gen_w (fun ww=>Gr uT ww∧Vr ww e8 (pnt x u false)) ⟨Y.alloc _,by subst ak;exact Vr.new _ _ _⟩ ?_;clear ak Y;rintro uB ⟨Y,c8⟩;replace G:=G.trans Y;replace J:=J.gr Y;replace l:=l.gr Y;replace A:=A.gr Y;replace C:=C.gr Y;replace I:=fun j=>(I j).gr Y;clear Y
  go_upto_region 16 with fail
  refine wp_v true [.c (.agg (crA (k:Int) (nN k) L)),.c (.agg (pnt x y false)),.pt (x) (y) false,.pt (x) (u) false,.c (.agg (pnt x u false)),.a,.u] [0,1,2,3,4] [⟨5,6,27,pnt 0 0 false,fun _=>pnt x u false⟩] ⟨.g 31 0 J rfl,.g 27 0 l rfl,.k _ fun q K h H=>RtW.of_pt (rin_any _ _ _ oP.lt.1 oP.lt.2 _),.k (fun q =>#[.agg (crA (k:Int) (nN k) L),.agg (ptA (q 2 0).1 (x) (q 2 0).2 (q 2 1).1 (y) (q 2 1).2 false)]) fun q K h H=>RtW.of_pt (rng Q R oP az L (fun j=>(I j).gr h) (H 2 rfl).1 (H 2 rfl).2),.k (fun q =>#[.agg (ptA (q 3 0).1 (x) (q 3 0).2 (q 3 1).1 (u) (q 3 1).2 false)]) fun q K h H=>RtW.of_c (Rt.c (rout_any _ _ _ _ _ _ _ _ (H 3 rfl).1 (H 3 rfl).2)),⟨⟩⟩ ⟨.k zPnt ⟨fkc,fkc,fkp bPnt,fkp bPnt,fkc,fka,fku,trivial⟩,⟨⟩⟩ fun ag v8 h a3 aE=>?_;simp only[fzw,Kw.a];obtain⟨⟨a4,W⟩,-⟩:(uB.heap.size≤(ag 5 0).2∧Vr v8 (ag 5 0).2 (pnt x u false))∧True:=aE;clear a3;have D:=h;clear h
  go_upto_region 17 with fail
  refine wp_wS [.O,.O,.T,.T,.O,.O,.T,.T,.T,.O,.O,.T,.T,.T,.c (.agg (pnt x y false)),.c (.agg (pnt x y false)),.T,.T,.T,.c (.agg (pnt x y false)),.c (.agg (pnt x y false)),.T,.T,.T,.c (.agg (pnt x u false)),.c (.agg (pnt x u false)),.T,.T,.T] [1,5,10,14,15,16,19,20,21,24,25,26] ⟨.y (num_any _),.y (num_any _),.y (num_any _),.g 27 0 (A.gr D) rfl,.g 27 0 (l.gr D) rfl,.s (.binOp .eql 27 (.const (.agg (pnt x y false))) (.const (.agg (pnt x y false))) 27) rfl fun K h=>by simp[go_sem,exI,eqPn,eqN_self],.g 27 0 (C.gr D) rfl,.g 27 0 (l.gr D) rfl,.s (.binOp .eql 27 (.const (.agg (pnt x y false))) (.const (.agg (pnt x y false))) 27) rfl fun K h=>by simp[go_sem,exI,eqPn,eqN_self],.g 27 0 (c8.gr D) rfl,.g 27 0 W rfl,.s (.binOp .eql 27 (.const (.agg (pnt x u false))) (.const (.agg (pnt x u false))) 27) rfl fun K h=>by simp[go_sem,exI,eqPn,eqN_self],⟨⟩⟩ fun a6 v9 h a5=>?_;simp only[fzw];clear a5;replace D:=D.trans h;have aG:=h;clear h;replace G:=G.trans D;replace J:=J.gr D;replace l:=l.gr D;replace A:=A.gr D;replace C:=C.gr D;replace c8:=c8.gr D;replace I:=fun k=>(I k).gr D;replace W:=W.gr aG;clear D aG
  go_wp2_with fail
  go_ret
  exact⟨rfl,G⟩
end
end
end Go.Proofs.YtiigakdbabijhaaGreat