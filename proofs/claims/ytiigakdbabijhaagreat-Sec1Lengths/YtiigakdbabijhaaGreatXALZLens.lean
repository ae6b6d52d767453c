import Derived.Test.YtiigakdbabijhaaGreatXALZBoth
namespace Go.Proofs.YtiigakdbabijhaaGreat
open Go.RowKit Go.Proofs.Tryz
set_option maxRecDepth 100000
set_option maxHeartbeats 8000000
section
attribute [local go_sem ↓] uz1
attribute [local go_sem] uz2
section
theorem gt_long{k:Nat}{r:List UInt8}(h:r.length≠2*szN k):gtL k (4 :: r)=(0,0,2102):=by
 rw[gtL_cons,if_neg (fun e=>h e.2),if_neg (fun e=>absurd e.1 (by decide))]
theorem gt_cut{k m:Nat}{r:List UInt8}(h:m<2*szN k+1):gtL k (((4:UInt8) :: r).take m)=(0,0,2102):=by
 cases m with
 | zero=>rfl
 | succ m=>
  rw[List.take_succ_cons];exact gt_long (by rw[List.length_take];omega)
attribute [local go_sem] uz8
attribute [local go_sem ↓] cvT_is cvU_is bsl_is loadC_is storeC_is loadPt_is storePt_is zvPt_is buildPt_is loadPn_is storePn_is zvPn_is loadCu_is storeCu_is zvCu_is buildCu_is buildPn_is Go.wp_at_zero Go.wp_at_succ
attribute [local go_sem] uz14
theorem lzlens_any(id:Int){n:Nat}(wn:n<18446744073709551616)(ct fs:Int)(w:World):Cg 7 #[.int .i64 id,.int .u64 n,.int .i64 ct,.int .i64 fs] w (.bool true):=by
 obtain⟨u,hu,aq,hk⟩:=idx_conv id;have ar:=idx_bd id;obtain⟨k,au⟩:=exl (idx id);rw[au]at hk ar;obtain⟨V,W⟩:=ar
 have u0:(0:Int)≤u:=by omega
 have av:(1:Int)+u%15=k:=by omega
 have aw:IntKind.i64.wrap ((u:Int)%15)=(u:Int)%15:=by rw[IntKind.wrap_i64];omega
 have ax:IntKind.u64.wrap ((u:Int)%15)=(u:Int)%15:=by rw[IntKind.wrap_u64];omega
 have ay:(u:Int).tmod 15=(u:Int)%15:=by rw[Int.tmod_eq_emod_of_nonneg (by omega)]
 have k0:(1:Int)≤k:=by omega
 have k1:(k:Int)≤15:=by omega
 have az:id%18446744073709551616=(u:Int):=by rw[←hu,IntKind.wrap_u64]
 clear au hk;have aa:Hid (∀w,Calls prog 10 #[.int .i64 k] w (GetQ k w)):=fun w=>getq_yes k V W w;have ab:Hid (∀w,Cg 14 #[] w (.bool true)):=fun w=>awake21_any w;obtain⟨P,hP⟩:=exl (mlQ k n (gQ k));have oP:OnQ k P:=hP▸mlQ_on V W _ (gQ_on V W)
 have aA:dl n≤400:=by have:=dl_M n (lt_M _ wn);omega
 obtain⟨x,y,f⟩:=P
 cases f with
 | true=>
  go_enter func7,ntmps7
  go_upto_region 4 with (first
   | (go_at_call 14;refine(ab.out _).mono ?_;rintro e WA ⟨rfl,GA⟩)
   | (go_at_call 10;refine(aa.out _).mono ?_;rintro e WB ⟨Q,rfl,D,GB⟩))
  obtain⟨e9,R⟩:=exl (WB.heap.size);simp only[R]
  refine gen_w (fun v=>Gr w v∧Vr v e9 (crA (k:Int) (nN k) Q)∧∀j,Sl v (Q j).1 (nN k j)) ?_ ?_
  ·subst R;exact⟨(GA.trans GB).alloc _,Vr.new _ _ _,fun j=>(D j).gr ((Gr.refl _).alloc _)⟩
  clear R GA GB D ab aa hu aq av aw ax ay az u0 k0 k1;rintro v0 ⟨G,I,D⟩;refine wp_v true [.c (.agg (crA (k:Int) (nN k) Q)),.c (.int .u64 n),.N n,.n (n),.c (.agg (crA (k:Int) (nN k) Q)),.pt (xN k) (yN k) false,.pt (x) (y) true,.c (.agg (pnt x y true)),.a,.u] [0,2,3,4,5,6,7] [⟨8,9,27,pnt 0 0 false,fun _=>pnt x y true⟩] ⟨.g 31 0 I rfl,.z (one_any _ wn),.k _ fun B H d J=>RtW.of_n (fm_any (lt_M _ wn)),.g 31 0 I rfl,.k _ fun B H d J=>RtW.of_pt (rg_any Q _ (fun j=>(D j).gr d)),.k (fun B =>#[.agg (crA (k:Int) (nN k) Q),.slice (B 3 0).1 (dl (n)) (B 3 0).2,.agg (ptA (B 5 0).1 (xN k) (B 5 0).2 (B 5 1).1 (yN k) (B 5 1).2 false)]) fun B H d J=>RtW.of_pt (rtm V W aA hP Q (fun j=>(D j).gr d) (J 3 rfl) (J 5 rfl).1 (J 5 rfl).2),.k (fun B =>#[.agg (ptA (B 6 0).1 (x) (B 6 0).2 (B 6 1).1 (y) (B 6 1).2 true)]) fun B H d J=>RtW.of_c (Rt.c (rout_any _ _ _ _ _ _ _ _ (J 6 rfl).1 (J 6 rfl).2)),⟨⟩⟩ ⟨.k zPnt ⟨fkc,fkc,fkc,fkn bPnt,fkc,fkp bPnt,fkp bPnt,fkc,fka,fku,trivial⟩,⟨⟩⟩ fun S v1 d h4 ah=>?_;simp only[fzw,Kw.a];obtain⟨⟨aB,l⟩,-⟩:(v0.heap.size≤(S 8 0).2∧Vr v1 (S 8 0).2 (pnt x y true))∧True:=ah;clear h4;have C:=d;clear d
  go_upto_region 5 with fail
  refine wp_wS [.T,.F,.F,.c (pv ((S 8 0).2) 18),.T,.T] [4] ⟨.o 4 18 l rfl (by exact pnt_18 _ _ _),⟨⟩⟩ fun aK v2 d h5=>?_;simp only[fzw];clear h5;replace C:=C.trans d;have U:=d;clear d;replace G:=G.trans C;replace I:=I.gr C;replace D:=fun k=>(D k).gr C;replace l:=l.gr U;clear C U
  go_wp2_with fail
  go_ret
  exact⟨rfl,G⟩
 | false=>
  have hz:=szN_le k;have a3:=szN_pos V W;obtain⟨r,er⟩:=exl (bs (szN k) x++bs (szN k) y)
  have lr:r.length=2*szN k:=by rw[←er,List.length_append,bs_length,bs_length];omega
  have el:putL k (x,y,false) false=4 :: r:=by rw[←er];rfl
  obtain⟨a,eT⟩:∃t:ByteArray,⟨((4:UInt8) :: r).toArray⟩=t:=⟨_,rfl⟩;obtain⟨L,hn⟩:=exl (((4:UInt8) :: r).length)
  have aL:L=2*szN k+1:=by rw[←hn,List.length_cons,lr]
  have la:a.size=L:=by rw[←eT,sz_tx,hn]
  have ne:a.toList.isEmpty=false:=by rw[←eT];simp
  obtain⟨c,hc,aM⟩:∃c:Nat,IntKind.u64.wrap ct=(c:Int)∧(c:Int)<18446744073709551616:=⟨(IntKind.u64.wrap ct).toNat,by rw[IntKind.wrap_u64];omega,by rw[IntKind.wrap_u64];omega⟩;obtain⟨m,em⟩:=exl (c%L);have mL:m<L:=em▸Nat.mod_lt _ (by omega);have hL:IntKind.u64.wrap (L:Int)=L:=wuA
  have aO:¬L=0:=by omega
  have hm:(c:Int).tmod (L:Int)=m:=by rw[Int.tmod_eq_emod_of_nonneg (by omega)];omega
  have aP:IntKind.i64.wrap (m:Int)=m:=wiA;obtain⟨pa,ai⟩:∃t:ByteArray,⟨(((4:UInt8) :: r).take m).toArray⟩=t:=⟨_,rfl⟩
  have aQ:∀w,(Instr.slice 9 (.string a) none (some (.int .i64 m)) none).run prog w=.ok (.string pa) w:=fun w=>by
   have t:=slT_lo a m (by omega) w
   rwa [←eT,ex_tx,List.drop_zero,Nat.sub_zero,ai,eT]at t
  have aj:a.size+1≤9223372036854775807:=by omega
  obtain⟨K,aC⟩:=exl (UInt8.ofNat (IntKind.u8.wrap fs).toNat)
  have aR:0≤IntKind.u8.wrap fs∧IntKind.u8.wrap fs<256:=by rw[IntKind.wrap_u8];omega
  have ak:Hid (IntKind.u8.wrap fs=(K.toNat:Int)):=by
   show IntKind.u8.wrap fs=(K.toNat:Int)
   rw[←aC,UInt8.toNat_ofNat']
   omega
  obtain⟨tT,aD⟩:∃t:ByteArray,⟨(K :: r).toArray⟩=t:=⟨_,rfl⟩
  have aS:(K :: r).length=L:=by rw[←hn,List.length_cons,List.length_cons]
  obtain⟨X,Y,E,hX⟩:∃X Y E,gtL k (K :: r)=(X,Y,E):=⟨_,_,_,rfl⟩
  have aT:Hid ((E==0)=true∧((K.toNat:Int)==4)=true∨(E==0)=false∧(E==2102)=true∧((K.toNat:Int)==4)=false):=by
   by_cases e4:K=4
   ·subst e4;have t:=gt_put V W oP rfl false;rw[el,hX]at t;simp only[Prod.mk.injEq]at t;exact .inl ⟨by rw[t.2.2];rfl,rfl⟩
   ·rw[gtL_cons,if_neg (fun e=>e4 e.1),if_neg (fun e=>by have:=e.2;omega)]at hX;simp only[Prod.mk.injEq]at hX;refine .inr ⟨by rw[←hX.2.2];rfl,by rw[←hX.2.2];rfl,?_⟩;rw[beq_eq_false_iff_ne];intro e;exact e4 (UInt8.toNat_inj.1 (by show K.toNat=4;omega))
  have aU:Hid (∀w,Cg 11 #[.int .i64 k,.agg (pnt x y false),.bool false] w (.tuple #[.string a,.int .i64 0])):=fun w=>by have t:=sput_whole V W oP w;rwa [el,eT]at t
  have aV:Hid (∀w,Cg 12 #[.int .i64 k,.string pa] w (.tuple #[.agg (pnt 0 0 false),.int .i64 2102])):=fun w=>by have t:=sget_any V W (((4:UInt8) :: r).take m) (gt_cut (by omega)) w;rwa [ai]at t
  have aW:Hid (∀w,Cg 12 #[.int .i64 k,.string (a++⟨#[120]⟩)] w (.tuple #[.agg (pnt 0 0 false),.int .i64 2102])):=fun w=>by have t:=sget_any V W (4 :: (r++[120])) (gt_long (by rw[List.length_append,lr];exact Nat.succ_ne_self _)) w;rwa [show (⟨((4:UInt8) :: (r++[120])).toArray⟩:ByteArray)=a++⟨#[120]⟩ by rw[←eT,app_tx _ [120]];rfl]at t
  have aX:Hid (∀w,Cg 12 #[.int .i64 k,.string tT] w (.tuple #[.agg (pnt X Y false),.int .i64 E])):=fun w=>by have t:=sget_any V W _ hX w;rwa [aD]at t
  have aY:Hid (uF ((4:UInt8) :: r) 0=.int .u8 4):=rfl;have aZ:Hid (Value.int .u8 (K.toNat:Int)=uF (K :: r) 0):=rfl;rw[la]at aj
  replace aj:a.size+1≤9223372036854775807:=by omega
  have a4:0<L:=by omega
  clear er lr el aC aR hX ai em mL aM aL
  go_enter func7,ntmps7
  go_upto_region 4 with (first
   | (go_at_call 14;refine(ab.out _).mono ?_;rintro e WA ⟨rfl,GA⟩)
   | (go_at_call 10;refine(aa.out _).mono ?_;rintro e WB ⟨Q,rfl,D,GB⟩))
  obtain⟨e9,R⟩:=exl (WB.heap.size);simp only[R]
  refine gen_w (fun v=>Gr w v∧Vr v e9 (crA (k:Int) (nN k) Q)∧∀j,Sl v (Q j).1 (nN k j)) ?_ ?_
  ·subst R;exact⟨(GA.trans GB).alloc _,Vr.new _ _ _,fun j=>(D j).gr ((Gr.refl _).alloc _)⟩
  clear R GA GB D ab aa hu aq av aw ax ay az u0 k0 k1;rintro v0 ⟨G,I,D⟩;refine wp_v true [.c (.agg (crA (k:Int) (nN k) Q)),.c (.int .u64 n),.N n,.n (n),.c (.agg (crA (k:Int) (nN k) Q)),.pt (xN k) (yN k) false,.pt (x) (y) false,.c (.agg (pnt x y false)),.a,.u] [0,2,3,4,5,6,7] [⟨8,9,27,pnt 0 0 false,fun _=>pnt x y false⟩] ⟨.g 31 0 I rfl,.z (one_any _ wn),.k _ fun B H d J=>RtW.of_n (fm_any (lt_M _ wn)),.g 31 0 I rfl,.k _ fun B H d J=>RtW.of_pt (rg_any Q _ (fun j=>(D j).gr d)),.k (fun B =>#[.agg (crA (k:Int) (nN k) Q),.slice (B 3 0).1 (dl (n)) (B 3 0).2,.agg (ptA (B 5 0).1 (xN k) (B 5 0).2 (B 5 1).1 (yN k) (B 5 1).2 false)]) fun B H d J=>RtW.of_pt (rtm V W aA hP Q (fun j=>(D j).gr d) (J 3 rfl) (J 5 rfl).1 (J 5 rfl).2),.k (fun B =>#[.agg (ptA (B 6 0).1 (x) (B 6 0).2 (B 6 1).1 (y) (B 6 1).2 false)]) fun B H d J=>RtW.of_c (Rt.c (rout_any _ _ _ _ _ _ _ _ (J 6 rfl).1 (J 6 rfl).2)),⟨⟩⟩ ⟨.k zPnt ⟨fkc,fkc,fkc,fkn bPnt,fkc,fkp bPnt,fkp bPnt,fkc,fka,fku,trivial⟩,⟨⟩⟩ fun S v1 d h4 ah=>?_;simp only[fzw,Kw.a];obtain⟨⟨aB,l⟩,-⟩:(v0.heap.size≤(S 8 0).2∧Vr v1 (S 8 0).2 (pnt x y false))∧True:=ah;clear h4;have C:=d;clear d
  go_upto_region 5 with fail
  refine wp_wS [.T,.F,.F,.c (pv ((S 8 0).2) 18),.F,.F] [4] ⟨.o 4 18 l rfl (by exact pnt_18 _ _ _),⟨⟩⟩ fun aK v2 d h5=>?_;simp only[fzw];clear h5;replace C:=C.trans d;have U:=d;clear d
  go_upto_region 7 with fail
  refine wp_wS [.c (pv e9 0),.c (.int .i64 k),.c (.agg (pnt x y false)),.E (.string a),.E (.string a),.c (.string a),.O,.c (.string a),.O] [1,2,3] ⟨.o 3 0 (I.gr C) rfl rfl,.g 27 0 (l.gr U) rfl,.z aU.out,⟨⟩⟩ fun a5 v3 d h7=>?_;simp only[fzw];clear h7;replace C:=C.trans d;replace U:=U.trans d;clear d
  go_upto_region 8 with fail
  refine wp_wS [.c (.string a),.F] [1] ⟨.s (.binOp .eql 9 (.const (.string a)) (.const (.string { data :=#[] })) 9) rfl fun H d=>by simp[go_sem,exI,ne],⟨⟩⟩ fun a6 v4 d h8=>?_;simp only[fzw];clear h8;replace C:=C.trans d;replace U:=U.trans d;clear d
  go_upto_region 10 with fail
  refine wp_v true [.c (pv e9 0),.c (.int .i64 k),.c (.string a),.c (.int .i64 ct),.c (.int .u64 c),.c (.string a),.c (.int .i64 (a.size:Int)),.c (.int .u64 L),.c (.int .u64 m),.c (.int .i64 m),.c (.string pa),.c (.tuple #[.agg (pnt 0 0 false),.int .i64 2102]),.c (.tuple #[.agg (pnt 0 0 false),.int .i64 2102]),.c (.agg (pnt 0 0 false)),.c (.int .i64 2102),.a,.u,.c (.int .i64 2102)] [1,4,7,8,9,10,11] [⟨15,16,27,pnt 0 0 false,fun _=>pnt 0 0 false⟩] ⟨.o 3 0 (I.gr C) rfl rfl,.s (.convert 3 50 (.const (.int .i64 ct))) rfl fun H d=>by simp[go_sem,exI,hc],.s (.convert 3 50 (.const (.int .i64 (a.size:Int)))) rfl fun H d=>by simp[go_sem,exI,la,hL],.s (.binOp .rem 50 (.const (.int .u64 c)) (.const (.int .u64 L)) 50) rfl fun H d=>by simp[go_sem,exI,hm,aO],.s (.convert 50 3 (.const (.int .u64 m))) rfl fun H d=>by simp[go_sem,exI,aP],.s (.slice 9 (.const (.string a)) none (some (.const (.int .i64 m))) none) rfl fun H d=>by simp[go_sem,exI,aQ],.z aV.out,⟨⟩⟩ ⟨.k zPnt (.t rfl),⟨⟩⟩ fun af v5 d a0 aE=>?_;simp only[fzw,Kw.a];obtain⟨⟨aJ,h⟩,-⟩:(v4.heap.size≤(af 15 0).2∧Vr v5 (af 15 0).2 (pnt 0 0 false))∧True:=aE;clear a0;replace C:=C.trans d;replace U:=U.trans d;clear d
  go_upto_region 11 with fail
  refine wp_v false [.c (pv e9 0),.c (.int .i64 k),.c (.string a),.c (.string (a++⟨#[120]⟩)),.c (.tuple #[.agg (pnt 0 0 false),.int .i64 2102]),.c (.tuple #[.agg (pnt 0 0 false),.int .i64 2102]),.c (.agg (pnt 0 0 false)),.c (.int .i64 2102),.a,.u,.c (.int .i64 2102)] [1,3,4] [⟨8,9,27,pnt 0 0 false,fun _=>pnt 0 0 false⟩] ⟨.o 3 0 (I.gr C) rfl rfl,.s (.binOp .add 9 (.const (.string a)) (.const (.string { data :=#[120] })) 9) rfl fun H d=>by simp[go_sem,exI,aj],.z aW.out,⟨⟩⟩ ⟨.k zPnt (.t rfl),⟨⟩⟩ fun ag v6 d a1 aG=>?_;simp only[fzw,Kw.a];obtain⟨⟨a2,q⟩,-⟩:(v5.heap.size≤(ag 8 0).2∧Vr v6 (ag 8 0).2 (pnt 0 0 false))∧True:=aG;clear a1;replace C:=C.trans d;replace U:=U.trans d;have aH:=d;clear d;replace G:=G.trans C;replace I:=I.gr C;replace D:=fun k=>(D k).gr C;replace l:=l.gr U;replace h:=h.gr aH;clear aH C U;obtain⟨gR,eR⟩:=exl (v6.heap.size);obtain⟨cap,wU,ac,hR,gU⟩:=cvU_run v6 (4 :: r);rw[eT,hn,eR]at ac;rw[hn,eR]at hR
  go_upto_region 13 with fail
  clear ac
  have k0:wU.cell? ⟨gR,0,none⟩=some (.int .u8 (4)):=by rw[hR.cell 0 (by omega),aY.out]
  have z0:wU.frozen? ⟨gR,0,none⟩=false:=(hR.room 0 (by have:=hR.le;omega)).2
  have i0:(0:Int)<L:=by omega
  have ae:=ak.out
  go_upto_region 14 with fail
  refine gen_w (fun ww=>Gr v6 ww∧∀i,i<L→ww.cell? ⟨gR,i,none⟩=some (uF (K :: r) i)) ⟨by rw[setCell_setBlk];exact gr_setNew gU (by omega),fun i hi=>?_⟩ ?_
  ·rw[setCell_setBlk,cell_blk,blk_setBlk _ _ _ (Array.size_pos_iff.2 (ne_cell k0)),Array.getElem?_setIfInBounds]
   by_cases e:0=i
   ·subst e;rw[if_pos rfl,if_pos (Array.size_pos_iff.2 (ne_cell k0)),aZ.out]
   ·rw[if_neg e,←cell_blk,hR.cell i hi];obtain⟨j,rfl⟩:∃j,i=j+1:=⟨i-1,by omega⟩
    rfl
  clear k0 z0 hR gU eR;rintro uT ⟨gT,hC⟩;replace G:=G.trans gT;replace I:=I.gr gT;replace l:=l.gr gT;replace h:=h.gr gT;replace q:=q.gr gT;replace D:=fun j=>(D j).gr gT;clear gT
  have ac:(cvT (.slice (some ⟨gR,0,none⟩) L cap)).run prog uT=.ok (.string tT) uT:=by
   have t:=cvT_cells (cap:=cap) (fun i hi=>hC i (by omega))
   rwa [aS,aD]at t
  have k9:uT.cell? ⟨e9,0,none⟩=some (.int .i64 k):=by rw[I.cell];rfl
  go_upto_region 15 with (go_at_call 12;refine(aX.out _).mono ?_;rintro e wB ⟨rfl,Z⟩)
  clear ac k9 hC;obtain⟨e8,ao⟩:=exl (wB.heap.size);simp only[ao];refine gen_w (fun ww=>Gr uT ww∧Vr ww e8 (pnt X Y false)) ⟨Z.alloc _,by subst ao;exact Vr.new _ _ _⟩ ?_;clear ao Z;rintro uB ⟨Z,c8⟩;replace G:=G.trans Z;replace I:=I.gr Z;replace l:=l.gr Z;replace h:=h.gr Z;replace q:=q.gr Z;replace D:=fun j=>(D j).gr Z;clear Z
  rcases aT.out with ⟨hE,h4⟩|⟨hE,hE2,h4⟩
  ·have ae:=ak.out
   go_upto_region 15 with fail
   refine wp_wS [.c (.int .i64 2102),.c (.int .i64 2102),.T,.T,.c (.int .i64 2102),.c (.int .i64 2102),.T,.T,.T,.c (.int .i64 E),.c (.int .i64 E),.T,.c (.int .i64 fs),.c (.int .u8 (K.toNat:Int)),.T,.T,.T,.T,.c (.int .i64 E),.c (.int .i64 E),.T,.T,.u,.u,.u,.T,.T,.T] [1,5,10,11,13,14,19,20] ⟨.y (num_any _),.y (num_any _),.y (num_any _),.s (.binOp .eql 3 (.const (.int .i64 E)) (.const (.int .i64 0)) 3) rfl fun H d=>by simp[go_sem,exI,hE],.s (.convert 3 5 (.const (.int .i64 fs))) rfl fun H d=>by simp[go_sem,exI,ae],.s (.binOp .eql 5 (.const (.int .u8 (K.toNat:Int))) (.const (.int .u8 4)) 5) rfl fun H d=>by simp[go_sem,exI,h4],.y (num_any _),.s (.binOp .eql 3 (.const (.int .i64 E)) (.const (.int .i64 0)) 3) rfl fun H d=>by simp[go_sem,exI,hE],⟨⟩⟩ fun aI v7 d ap=>?_;simp only[fzw];clear ap;have A:=d;clear d;replace G:=G.trans A;replace I:=I.gr A;replace l:=l.gr A;replace h:=h.gr A;replace q:=q.gr A;replace c8:=c8.gr A;replace D:=fun k=>(D k).gr A;clear A
   go_wp2_with fail
   go_ret
   exact⟨rfl,G⟩
  ·have ae:=ak.out
   go_upto_region 15 with fail
   refine wp_wS [.c (.int .i64 2102),.c (.int .i64 2102),.T,.T,.c (.int .i64 2102),.c (.int .i64 2102),.T,.T,.T,.c (.int .i64 E),.c (.int .i64 E),.F,.c (.int .i64 fs),.c (.int .u8 (K.toNat:Int)),.F,.T,.T,.T,.c (.int .i64 E),.c (.int .i64 E),.F,.F,.c (.int .i64 E),.c (.int .i64 E),.T,.T,.T,.T] [1,5,10,11,13,14,19,20,23,24] ⟨.y (num_any _),.y (num_any _),.y (num_any _),.s (.binOp .eql 3 (.const (.int .i64 E)) (.const (.int .i64 0)) 3) rfl fun H d=>by simp[go_sem,exI,hE],.s (.convert 3 5 (.const (.int .i64 fs))) rfl fun H d=>by simp[go_sem,exI,ae],.s (.binOp .eql 5 (.const (.int .u8 (K.toNat:Int))) (.const (.int .u8 4)) 5) rfl fun H d=>by simp[go_sem,exI,h4],.y (num_any _),.s (.binOp .eql 3 (.const (.int .i64 E)) (.const (.int .i64 0)) 3) rfl fun H d=>by simp[go_sem,exI,hE],.y (num_any _),.s (.binOp .eql 3 (.const (.int .i64 E)) (.const (.int .i64 2102)) 3) rfl fun H d=>by simp[go_sem,exI,hE2],⟨⟩⟩ fun aI v7 d ap=>?_;simp only[fzw];clear ap;have A:=d;clear d;replace G:=G.trans A;replace I:=I.gr A;replace l:=l.gr A;replace h:=h.gr A;replace q:=q.gr A;replace c8:=c8.gr A;replace D:=fun k=>(D k).gr A;clear A
   go_wp2_with fail
   go_ret
   exact⟨rfl,G⟩
end
end
end Go.Proofs.YtiigakdbabijhaaGreat