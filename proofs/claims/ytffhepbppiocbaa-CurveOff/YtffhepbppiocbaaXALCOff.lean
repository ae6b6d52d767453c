import Derived.Test.YtffhepbppiocbaaXALCS
import Derived.Test.YtffhepbppiocbaaXACO
import Derived.Test.YtffhepbppiocbaaRows
namespace Go.Proofs.Ytffhepbppiocbaa
open Go.RowKit Go.Proofs.Try
set_option maxRecDepth 100000
set_option maxHeartbeats 8000000
section
attribute [local go_sem ↓] uz1
attribute [local go_sem] uz2
section
attribute [local go_sem] uz7
attribute [local go_sem ↓] uz10 Go.wp_at_zero Go.wp_at_succ
attribute [local go_sem] uz11
attribute [local go_sem] loadPX loadPY pnt_X pnt_Y
theorem u64_conv(x:Int):∃u:Nat,IntKind.u64.wrap x=(u:Int)∧(u:Int)<18446744073709551616:=by
 have h:0≤IntKind.u64.wrap x∧IntKind.u64.wrap x<18446744073709551616:=by rw[IntKind.wrap_u64];omega
 exact⟨(IntKind.u64.wrap x).toNat,by omega,by omega⟩
theorem pnt_atX(x y j:Nat)(f:Bool)(hj:j<9):(pnt x y f)[j]? = some (Value.int .u64 ((wd x j:Nat):Int)):=by
 unfold pnt;rw[Array.getElem?_append_left (by simp[nw_size];omega),Array.getElem?_append_left (by simp[nw_size];omega),nw_get _ _ _ hj]
theorem pnt_atY(x y j:Nat)(f:Bool)(hj:j<9):(pnt x y f)[9+j]? = some (Value.int .u64 ((wd y j:Nat):Int)):=by
 unfold pnt;rw[Array.getElem?_append_left (by simp[nw_size];omega),Array.getElem?_append_right (by simp[nw_size])];simp only[nw_size,Nat.add_sub_cancel_left];exact nw_get _ _ _ hj
theorem lcoff_y(id bit:Int)(w:World):Cg 7 #[.int .i64 id,.int .i64 bit,.bool true] w (.bool true):=by
 obtain⟨u,hu,aM,hk⟩:=idx_conv id;have af:=idx_bd id;obtain⟨k,ag⟩:=exl (idx id);rw[ag]at hk af;obtain⟨H,I⟩:=af
 have u0:(0:Int)≤u:=by omega
 have aO:(1:Int)+u%15=k:=by omega
 have aP:IntKind.i64.wrap ((u:Int)%15)=(u:Int)%15:=by rw[IntKind.wrap_i64];omega
 have aQ:IntKind.u64.wrap ((u:Int)%15)=(u:Int)%15:=by rw[IntKind.wrap_u64];omega
 have aR:(u:Int).tmod 15=(u:Int)%15:=by rw[Int.tmod_eq_emod_of_nonneg (by omega)]
 have k0:(1:Int)≤k:=by omega
 have k1:(k:Int)≤15:=by omega
 have aS:id%18446744073709551616=(u:Int):=by rw[←hu,IntKind.wrap_u64]
 clear ag hk;have HG:Hid (∀w,Cg 9 #[.int .i64 k] w (.tuple #[.agg (cuK k),.int .i64 0])):=fun w=>get13_yes k H I w;have ay:Hid (∀w,Cg 14 #[] w (.bool true)):=fun w=>awake13_any w;have aT:=gN_on k H I;obtain⟨z1,z2⟩:=szN_bd k H I;obtain⟨ub,az,aH⟩:=u64_conv bit;obtain⟨m,hm⟩:=exl (8*szN k);obtain⟨i,hi⟩:=exl (ub%m)
 have m1:8≤m:=by omega
 have aU:i<m:=hi▸Nat.mod_lt _ (by omega)
 have ah:i<576:=by omega
 have g1:(8:Int)*(szN k:Int)=(m:Int):=by omega
 have g2:IntKind.i64.wrap (m:Int)=m:=wiA;have g3:IntKind.u64.wrap (m:Int)=m:=wuA
 have g4:(ub:Int).tmod (m:Int)=i:=by rw[←hi,Int.tmod_eq_emod_of_nonneg (by omega)];omega
 have g5:IntKind.u64.wrap (i:Int)=i:=wuA;have g6:IntKind.i64.wrap (i:Int)=i:=wiA
 have g7:max (m:Int) 1=(m:Int):=by omega
 have g8:¬m=0:=by omega
 obtain⟨j,hj⟩:=exl (i/64);obtain⟨U,ht⟩:=exl (i%64)
 have j1:j<9:=by omega
 have t1:U<64:=by omega
 obtain⟨wv,L⟩:=exl (wd (yN k) j);obtain⟨V,P⟩:=exl (2^U);obtain⟨xv,W⟩:=exl (wv^^^V);obtain⟨C,X⟩:=exl (flp (yN k) i);have Y:C<M:=X▸flp_lt _ _ (nN_M k H I).2.2.2.2.2 ah;have aA:C≠yN k:=X▸flp_ne _ _;have aV:=pN_dl k H I;have aW:dl C≤18:=dl_M _ Y;have a0:dl (yN k)≤18:=dl_M _ (nN_M k H I).2.2.2.2.2;have Z:(pnt (xN k) (yN k) false)[9+j]? = some (Value.int .u64 wv):=L▸pnt_atY _ _ j _ j1
 have ai:(pnt (xN k) (yN k) false).setIfInBounds (9+j) (.int .u64 xv)=pnt (xN k) C false:=by
  rw[←X,←W,←L,←P,←hj,←ht];exact pnt_flpY _ _ _ _ ah
 have aa:(i:Int).tdiv 64=(j:Int):=by rw[Int.tdiv_eq_ediv_of_nonneg (by omega)];omega
 have ab:IntKind.i64.wrap (j:Int)=j:=wiA
 have aj:(i:Int).tmod 64=(U:Int):=by rw[Int.tmod_eq_emod_of_nonneg (by omega)];omega
 have p1:V<18446744073709551616:=P▸Nat.pow_lt_pow_right (n:=64) (by decide) t1;have w1:wv<18446744073709551616:=L▸wd_lt _ _
 have ak:IntKind.u64.wrap ((2:Int)^U)=(V:Int):=by
  have e:(2:Int)^U=(V:Int):=by rw[←P];simp
  rw[e,IntKind.wrap_u64];omega
 have ao:bits BinOp.xor IntKind.u64 (wv:Int) (V:Int)=xv:=by rw[bits_xor_u64_nat _ _ w1 p1,W]
 have ac:¬(9:Int)≤j:=by omega
 have aB:dl (yN k+C)≤400:=by
  have e:pq 19=M*4294967296:=by rw[←pq_M];exact pq_succ 18
  have:=(nN_M k H I).2.2.2.2.2;exact Nat.le_trans ((dl_le _ 19).2 (by omega)) (by decide)
 obtain⟨zz,ap⟩:=exl (cmpZ (yN k+C) (pN k));obtain⟨Q,aq⟩:=exl ((zz==0))
 have aC:decide (zz=0)=Q:=by rw[←aq];rfl
 have ar:onB k (xN k) C false=Q:=by
  rw[onB_other k H I C aA,←aC,←ap];refine decide_eq_decide.2 ?_;unfold cmpZ
  split
  ·simp;omega
  ·split
   ·simp;omega
   ·simp;omega
 have au:=onB_inf k H I
 go_enter func7,ntmps7
 go_upto_region 4 with (first
  | (go_at_call 14;refine(ay.out _).mono ?_;rintro e WA ⟨rfl,GA⟩)
  | (go_at_call 9;refine(HG.out _).mono ?_;rintro e WB ⟨rfl,GB⟩))
 obtain⟨J,ae⟩:=exl (WB.heap.size);simp only[ae]
 refine gen_w (fun v=>Gr w v∧Vr v J (cuK k)) ?_ ?_
 ·subst ae;exact⟨(GA.trans GB).alloc _,Vr.new WB _ _⟩
 clear ae GA GB;rintro v0 ⟨G,x⟩;refine wp_wS [.c (.int .i64 bit),.c (.int .u64 ub),.c (pv J 57),.c (.int .i64 (szN k)),.c (.int .i64 m),.c (.int .i64 m),.c (.int .u64 m),.c (.int .u64 i),.c (.int .i64 i),.c (.int .i64 i)] [1,3,4,5,6,7,8] ⟨.s (.convert 3 51 (.const (.int .i64 bit))) rfl fun B d=>by simp[go_sem,exI,az],.o 3 57 x rfl (by exact cu_57 _ _ _ _ _ _ _ _ _ _),.s (.binOp .mul 3 (.const (.int .i64 8)) (.const (.int .i64 (szN k))) 3) rfl fun B d=>by simp[go_sem,exI,g1,g2],.s (.call { callee:=.builtin .max,args :=#[(.const (.int .i64 m)),.const (.int .i64 1)],argTypes :=#[3,3] }) rfl fun B d=>by simp[go_sem,exI,g7],.s (.convert 3 51 (.const (.int .i64 m))) rfl fun B d=>by simp[go_sem,exI,g3],.s (.binOp .rem 51 (.const (.int .u64 ub)) (.const (.int .u64 m)) 51) rfl fun B d=>by simp[go_sem,exI,g4,g8],.s (.convert 51 3 (.const (.int .u64 i))) rfl fun B d=>by simp[go_sem,exI,g6],⟨⟩⟩ fun a1 v1 d h4=>?_;simp only[fzw];clear h4;replace G:=G.trans d;replace x:=x.gr d;clear d;have q7:J+1≤v1.heap.size:=x.p;have qw:w.heap.size≤v1.heap.size:=G.below.size
 go_upto_region 5 with fail
 refine wp_wTS 3 [.c (pv J 37),.c (.agg (pnt (xN k) (yN k) false)),.v (v1.heap.size) (pnt 0 0 false)] [1,2] ⟨.g 27 37 x rfl,.a 27 rfl,⟨⟩⟩ (.s 27 (fun D=>pv ((D 2 0).2) 0) (fun D=>.agg (pnt (xN k) (yN k) false)) fun l v2 d h5=>?_);have HT:=(h5 2).2.h;have FT:=(h5 2).2.f;refine⟨setBlk v2 ((l 2 0).2) (pnt (xN k) (yN k) false),by simp[go_sem,exI,HT,FT],?_⟩;simp only[fzw];obtain⟨aI,av⟩:v1.heap.size≤(l 2 0).2∧Vr v2 (l 2 0).2 (pnt 0 0 false):=h5 2;clear h5;replace G:=G.trans d;replace x:=x.gr d;clear d
 have aw:(l 2 0).2≠J:=by omega
 have S:w.heap.size≤(l 2 0).2:=by omega
 go_upto_region 7 with fail
 refine gen_w (fun u=>Gr w u∧Vr u J (cuK k)∧Vr u ((l 2 0).2) (pnt (xN k) (yN k) false)) ⟨gr_setNew G S,x.other aw,av.set (by rw[pnt_size];decide) _⟩ ?_;clear HT FT G x;rintro u5 ⟨G,x,q⟩;refine wp_wT 15 [.c (.int .i64 i),.c (.int .i64 j),.c (.int .i64 i),.c (.int .i64 j),.c (pv ((l 2 0).2) 9),.c (pv ((l 2 0).2) 9),.c (pv ((l 2 0).2) (9+j)),.c (.int .u64 wv),.c (.int .i64 i),.c (.int .i64 U),.c (.int .u64 V),.c (.int .u64 xv),.c (pv ((l 2 0).2) 9),.c (pv ((l 2 0).2) 9),.c (pv ((l 2 0).2) (9+j))] [1,3,6,7,9,10,11,14] ⟨.s (.binOp .quo 3 (.const (.int .i64 i)) (.const (.int .i64 64)) 3) rfl fun B d=>by simp[go_sem,exI,aa,ab],.s (.binOp .quo 3 (.const (.int .i64 i)) (.const (.int .i64 64)) 3) rfl fun B d=>by simp[go_sem,exI,aa,ab],.s (.indexAddr 23 (.const (pv ((l 2 0).2) 9)) (.const (.int .i64 j))) rfl fun B d=>by simp[go_sem,exI,ac],.s (.load 22 (.const (pv ((l 2 0).2) (9+j)))) rfl fun B d=>by have ax:=(q.gr d).h;simp[go_sem,exI,cell_blk,ax,Z],.s (.binOp .rem 3 (.const (.int .i64 i)) (.const (.int .i64 64)) 3) rfl fun B d=>by simp[go_sem,exI,aj],.s (.binOp .shl 22 (.const (.int .u64 1)) (.const (.int .i64 U)) 3) rfl fun B d=>by simp[go_sem,exI,ak],.s (.binOp .xor 22 (.const (.int .u64 wv)) (.const (.int .u64 V)) 22) rfl fun B d=>by simp[go_sem,exI,ao],.s (.indexAddr 23 (.const (pv ((l 2 0).2) 9)) (.const (.int .i64 j))) rfl fun B d=>by simp[go_sem,exI,ac],⟨⟩⟩ (.s 22 (fun D=>pv ((l 2 0).2) (9+j)) (fun D=>.int .u64 xv) fun a2 v3 d h7=>?_);have HT:=(q.gr d).h;have FT:=(q.gr d).f;refine⟨setBlk v3 ((l 2 0).2) (pnt (xN k) C false),by simp[go_sem,exI,HT,cell_blk,setCell_setBlk,Z,ai,frozen_frz _ _ _ FT],?_⟩;simp only[fzw];clear h7;replace G:=G.trans d;replace x:=x.gr d;replace q:=q.gr d;clear d
 go_upto_region 9 with fail
 refine gen_w (fun u=>Gr w u∧Vr u J (cuK k)∧Vr u ((l 2 0).2) (pnt (xN k) C false)) ⟨gr_setNew G S,x.other aw,q.set (by rw[pnt_size];decide) _⟩ ?_;clear HT FT G x q Z ai W L P ao ak p1 w1 aa ab aj ac hj ht j1 t1;rintro u8 ⟨G,x,q⟩;refine wp_w [.c (pv J 37),.c (pv J 46),.N (yN k),.n (yN k),.c (pv ((l 2 0).2) 9),.N C,.n (C),.n (yN k+C),.n (yN k+C)] [2,3,5,6,7,8] ⟨.g 25 46 x rfl,.k _ fun D B d hh=>RtW.of_n (fm_any (nN_M k H I).2.2.2.2.2),.g 25 9 q rfl,.k _ fun D B d hh=>RtW.of_n (fm_any Y),.k (fun D =>#[.slice (D 3 0).1 (dl (yN k)) (D 3 0).2,.slice (D 6 0).1 (dl (C)) (D 6 0).2]) fun D B d hh=>RtW.of_n (Rt.n (radd_any _ _ _ _ _ _ _ (hh 3 rfl) (hh 6 rfl) (by omega) (by omega))),.m 7,⟨⟩⟩ fun K v4 d h9=>?_;simp only[fzw];have A:Sl v4 (K 8 0).1 (yN k+C):=h9 8;clear h9;replace G:=G.trans d;replace x:=x.gr d;replace q:=q.gr d;clear d
 go_upto_region 10 with fail
 refine wp_wS [.T,.T,.c (.slice (K 8 0).1 (dl (yN k+C)) (K 8 0).2),.c (pv J 1),.N (pN k),.n (pN k),.c (.int .i64 zz),.c (.bool Q),.c (.bool Q),.c (.bool Q)] [4,5,6,7] ⟨.g 25 1 x rfl,.k _ fun D B d hh=>RtW.of_n (fm_any (nN_M k H I).1),.k (fun D =>#[.slice (K 8 0).1 (dl (yN k+C)) (K 8 0).2,.slice (D 5 0).1 (dl (pN k)) (D 5 0).2]) fun D B d hh=>RtW.of_c (cz_any (A.gr d) (hh 5 rfl) aB (by omega) ap),.s (.binOp .eql 3 (.const (.int .i64 zz)) (.const (.int .i64 0)) 3) rfl fun B d=>by simp[go_sem,exI,aq],⟨⟩⟩ fun aJ v5 d aD=>?_;simp only[fzw];clear aD;replace G:=G.trans d;replace x:=x.gr d;replace q:=q.gr d;replace A:=A.gr d;clear d
 go_upto_region 11 with fail
 refine wp_wS [.T,.F] [] ⟨⟩ fun aK v6 d aE=>?_;simp only[fzw];clear aE;replace G:=G.trans d;replace x:=x.gr d;replace q:=q.gr d;replace A:=A.gr d;clear d
 go_upto_region 13 with fail
 refine wp_wS [.O,.O,.T,.T,.c (pv J 0),.c (.int .i64 k),.c (.agg (pnt (xN k) C false)),.c (.bool Q),.c (.bool Q),.T,.T,.T,.c (pv J 0),.c (.int .i64 k),.c (pv J 37),.c (pv J 37),.N (xN k),.c (pv J 37),.c (pv J 46),.N (yN k),.c (.agg (pnt (xN k) (yN k) true)),.F,.T,.T,.T] [1,5,6,7,9,13,16,19,20,21] ⟨.y (num_any _),.o 3 0 x rfl (by exact cu_0 _ _ _ _ _ _ _ _ _ _),.g 27 0 q rfl,.z (ar▸on13_yes k H I _ _ false (nN_M k H I).2.2.2.2.1 Y),.s (.binOp .eql 4 (.const (.bool Q)) (.const (.bool Q)) 4) rfl fun B d=>by simp[go_sem,exI],.o 3 0 x rfl (by exact cu_0 _ _ _ _ _ _ _ _ _ _),.g 25 37 x rfl,.g 25 46 x rfl,.s (.build 27 #[(0,(.const (.agg (nw 9 (xN k))))),(1,(.const (.agg (nw 9 (yN k))))),(2,(.const (.bool true)))]) rfl fun B d=>by simp[go_sem,exI,buildPn3],.z (au▸on13_yes k H I _ _ true (nN_M k H I).2.2.2.2.1 (nN_M k H I).2.2.2.2.2),⟨⟩⟩ fun aL v7 d aG=>?_;simp only[fzw];clear aG;replace G:=G.trans d;replace x:=x.gr d;replace q:=q.gr d;replace A:=A.gr d;clear d
 go_wp2_with fail
 go_ret
 exact⟨rfl,G⟩
theorem lcoff_n(id bit:Int)(w:World):Cg 7 #[.int .i64 id,.int .i64 bit,.bool false] w (.bool true):=by
 obtain⟨u,hu,aD,hk⟩:=idx_conv id;have aa:=idx_bd id;obtain⟨k,ab⟩:=exl (idx id);rw[ab]at hk aa;obtain⟨D,H⟩:=aa
 have u0:(0:Int)≤u:=by omega
 have aE:(1:Int)+u%15=k:=by omega
 have aG:IntKind.i64.wrap ((u:Int)%15)=(u:Int)%15:=by rw[IntKind.wrap_i64];omega
 have aH:IntKind.u64.wrap ((u:Int)%15)=(u:Int)%15:=by rw[IntKind.wrap_u64];omega
 have aI:(u:Int).tmod 15=(u:Int)%15:=by rw[Int.tmod_eq_emod_of_nonneg (by omega)]
 have k0:(1:Int)≤k:=by omega
 have k1:(k:Int)≤15:=by omega
 have aJ:id%18446744073709551616=(u:Int):=by rw[←hu,IntKind.wrap_u64]
 clear ab hk;have HG:Hid (∀w,Cg 9 #[.int .i64 k] w (.tuple #[.agg (cuK k),.int .i64 0])):=fun w=>get13_yes k D H w;have ao:Hid (∀w,Cg 14 #[] w (.bool true)):=fun w=>awake13_any w;have ap:=gN_on k D H;obtain⟨z1,z2⟩:=szN_bd k D H;obtain⟨ub,aq,ay⟩:=u64_conv bit;obtain⟨m,hm⟩:=exl (8*szN k);obtain⟨i,hi⟩:=exl (ub%m)
 have m1:8≤m:=by omega
 have aK:i<m:=hi▸Nat.mod_lt _ (by omega)
 have ac:i<576:=by omega
 have g1:(8:Int)*(szN k:Int)=(m:Int):=by omega
 have g2:IntKind.i64.wrap (m:Int)=m:=wiA;have g3:IntKind.u64.wrap (m:Int)=m:=wuA
 have g4:(ub:Int).tmod (m:Int)=i:=by rw[←hi,Int.tmod_eq_emod_of_nonneg (by omega)];omega
 have g5:IntKind.u64.wrap (i:Int)=i:=wuA;have g6:IntKind.i64.wrap (i:Int)=i:=wiA
 have g7:max (m:Int) 1=(m:Int):=by omega
 have g8:¬m=0:=by omega
 obtain⟨j,hj⟩:=exl (i/64);obtain⟨P,ht⟩:=exl (i%64)
 have j1:j<9:=by omega
 have t1:P<64:=by omega
 obtain⟨wv,J⟩:=exl (wd (xN k) j);obtain⟨Q,K⟩:=exl (2^P);obtain⟨xv,S⟩:=exl (wv^^^Q);obtain⟨fv,U⟩:=exl (flp (xN k) i);have ar:fv<M:=U▸flp_lt _ _ (nN_M k D H).2.2.2.2.1 ac;have aL:fv≠xN k:=U▸flp_ne _ _;have aM:=pN_dl k D H;have aO:dl fv≤18:=dl_M _ ar;have aP:dl (yN k)≤18:=dl_M _ (nN_M k D H).2.2.2.2.2;have V:(pnt (xN k) (yN k) false)[j]? = some (Value.int .u64 wv):=J▸pnt_atX _ _ j _ j1
 have ae:(pnt (xN k) (yN k) false).setIfInBounds (j) (.int .u64 xv)=pnt fv (yN k) false:=by
  rw[←U,←S,←J,←K,←hj,←ht];exact pnt_flpX _ _ _ _ ac
 have W:(i:Int).tdiv 64=(j:Int):=by rw[Int.tdiv_eq_ediv_of_nonneg (by omega)];omega
 have X:IntKind.i64.wrap (j:Int)=j:=wiA
 have af:(i:Int).tmod 64=(P:Int):=by rw[Int.tmod_eq_emod_of_nonneg (by omega)];omega
 have p1:Q<18446744073709551616:=K▸Nat.pow_lt_pow_right (n:=64) (by decide) t1;have w1:wv<18446744073709551616:=J▸wd_lt _ _
 have ag:IntKind.u64.wrap ((2:Int)^P)=(Q:Int):=by
  have e:(2:Int)^P=(Q:Int):=by rw[←K];simp
  rw[e,IntKind.wrap_u64];omega
 have ah:bits BinOp.xor IntKind.u64 (wv:Int) (Q:Int)=xv:=by rw[bits_xor_u64_nat _ _ w1 p1,S]
 have Y:¬(9:Int)≤j:=by omega
 go_enter func7,ntmps7
 go_upto_region 4 with (first
  | (go_at_call 14;refine(ao.out _).mono ?_;rintro e WA ⟨rfl,GA⟩)
  | (go_at_call 9;refine(HG.out _).mono ?_;rintro e WB ⟨rfl,GB⟩))
 obtain⟨I,Z⟩:=exl (WB.heap.size);simp only[Z]
 refine gen_w (fun v=>Gr w v∧Vr v I (cuK k)) ?_ ?_
 ·subst Z;exact⟨(GA.trans GB).alloc _,Vr.new WB _ _⟩
 clear Z GA GB;rintro v0 ⟨G,x⟩;refine wp_wS [.c (.int .i64 bit),.c (.int .u64 ub),.c (pv I 57),.c (.int .i64 (szN k)),.c (.int .i64 m),.c (.int .i64 m),.c (.int .u64 m),.c (.int .u64 i),.c (.int .i64 i),.c (.int .i64 i)] [1,3,4,5,6,7,8] ⟨.s (.convert 3 51 (.const (.int .i64 bit))) rfl fun B d=>by simp[go_sem,exI,aq],.o 3 57 x rfl (by exact cu_57 _ _ _ _ _ _ _ _ _ _),.s (.binOp .mul 3 (.const (.int .i64 8)) (.const (.int .i64 (szN k))) 3) rfl fun B d=>by simp[go_sem,exI,g1,g2],.s (.call { callee:=.builtin .max,args :=#[(.const (.int .i64 m)),.const (.int .i64 1)],argTypes :=#[3,3] }) rfl fun B d=>by simp[go_sem,exI,g7],.s (.convert 3 51 (.const (.int .i64 m))) rfl fun B d=>by simp[go_sem,exI,g3],.s (.binOp .rem 51 (.const (.int .u64 ub)) (.const (.int .u64 m)) 51) rfl fun B d=>by simp[go_sem,exI,g4,g8],.s (.convert 51 3 (.const (.int .u64 i))) rfl fun B d=>by simp[go_sem,exI,g6],⟨⟩⟩ fun aQ v1 d h4=>?_;simp only[fzw];clear h4;replace G:=G.trans d;replace x:=x.gr d;clear d;have q7:I+1≤v1.heap.size:=x.p;have qw:w.heap.size≤v1.heap.size:=G.below.size
 go_upto_region 5 with fail
 refine wp_wTS 3 [.c (pv I 37),.c (.agg (pnt (xN k) (yN k) false)),.v (v1.heap.size) (pnt 0 0 false)] [1,2] ⟨.g 27 37 x rfl,.a 27 rfl,⟨⟩⟩ (.s 27 (fun C=>pv ((C 2 0).2) 0) (fun C=>.agg (pnt (xN k) (yN k) false)) fun l v2 d h5=>?_);have HT:=(h5 2).2.h;have FT:=(h5 2).2.f;refine⟨setBlk v2 ((l 2 0).2) (pnt (xN k) (yN k) false),by simp[go_sem,exI,HT,FT],?_⟩;simp only[fzw];obtain⟨az,ai⟩:v1.heap.size≤(l 2 0).2∧Vr v2 (l 2 0).2 (pnt 0 0 false):=h5 2;clear h5;replace G:=G.trans d;replace x:=x.gr d;clear d
 have aj:(l 2 0).2≠I:=by omega
 have L:w.heap.size≤(l 2 0).2:=by omega
 go_upto_region 8 with fail
 refine gen_w (fun u=>Gr w u∧Vr u I (cuK k)∧Vr u ((l 2 0).2) (pnt (xN k) (yN k) false)) ⟨gr_setNew G L,x.other aj,ai.set (by rw[pnt_size];decide) _⟩ ?_;clear HT FT G x;rintro u5 ⟨G,x,q⟩;refine wp_wT 15 [.c (.int .i64 i),.c (.int .i64 j),.c (.int .i64 i),.c (.int .i64 j),.c (pv ((l 2 0).2) 0),.c (pv ((l 2 0).2) 0),.c (pv ((l 2 0).2) j),.c (.int .u64 wv),.c (.int .i64 i),.c (.int .i64 P),.c (.int .u64 Q),.c (.int .u64 xv),.c (pv ((l 2 0).2) 0),.c (pv ((l 2 0).2) 0),.c (pv ((l 2 0).2) j)] [1,3,6,7,9,10,11,14] ⟨.s (.binOp .quo 3 (.const (.int .i64 i)) (.const (.int .i64 64)) 3) rfl fun B d=>by simp[go_sem,exI,W,X],.s (.binOp .quo 3 (.const (.int .i64 i)) (.const (.int .i64 64)) 3) rfl fun B d=>by simp[go_sem,exI,W,X],.s (.indexAddr 23 (.const (pv ((l 2 0).2) 0)) (.const (.int .i64 j))) rfl fun B d=>by simp[go_sem,exI,Y],.s (.load 22 (.const (pv ((l 2 0).2) j))) rfl fun B d=>by have ak:=(q.gr d).h;simp[go_sem,exI,cell_blk,ak,V],.s (.binOp .rem 3 (.const (.int .i64 i)) (.const (.int .i64 64)) 3) rfl fun B d=>by simp[go_sem,exI,af],.s (.binOp .shl 22 (.const (.int .u64 1)) (.const (.int .i64 P)) 3) rfl fun B d=>by simp[go_sem,exI,ag],.s (.binOp .xor 22 (.const (.int .u64 wv)) (.const (.int .u64 Q)) 22) rfl fun B d=>by simp[go_sem,exI,ah],.s (.indexAddr 23 (.const (pv ((l 2 0).2) 0)) (.const (.int .i64 j))) rfl fun B d=>by simp[go_sem,exI,Y],⟨⟩⟩ (.s 22 (fun C=>pv ((l 2 0).2) j) (fun C=>.int .u64 xv) fun aR v3 d h8=>?_);have HT:=(q.gr d).h;have FT:=(q.gr d).f;refine⟨setBlk v3 ((l 2 0).2) (pnt fv (yN k) false),by simp[go_sem,exI,HT,cell_blk,setCell_setBlk,V,ae,frozen_frz _ _ _ FT],?_⟩;simp only[fzw];clear h8;replace G:=G.trans d;replace x:=x.gr d;replace q:=q.gr d;clear d
 go_upto_region 9 with fail
 refine gen_w (fun u=>Gr w u∧Vr u I (cuK k)∧Vr u ((l 2 0).2) (pnt fv (yN k) false)) ⟨gr_setNew G L,x.other aj,q.set (by rw[pnt_size];decide) _⟩ ?_;clear HT FT G x q V ae S J K ah ag p1 w1 W X af Y hj ht j1 t1;rintro u8 ⟨G,x,q⟩;refine wp_w [.c (pv I 37),.c (pv I 46),.N (yN k),.n (yN k),.c (pv ((l 2 0).2) 9),.N (yN k),.n (yN k),.n (yN k+yN k),.n (yN k+yN k)] [2,3,5,6,7,8] ⟨.g 25 46 x rfl,.k _ fun C B d hh=>RtW.of_n (fm_any (nN_M k D H).2.2.2.2.2),.g 25 9 q rfl,.k _ fun C B d hh=>RtW.of_n (fm_any (nN_M k D H).2.2.2.2.2),.k (fun C =>#[.slice (C 3 0).1 (dl (yN k)) (C 3 0).2,.slice (C 6 0).1 (dl (yN k)) (C 6 0).2]) fun C B d hh=>RtW.of_n (Rt.n (radd_any _ _ _ _ _ _ _ (hh 3 rfl) (hh 6 rfl) (by omega) (by omega))),.m 7,⟨⟩⟩ fun au v4 d h9=>?_;simp only[fzw];have A:Sl v4 (au 8 0).1 (yN k+yN k):=h9 8;clear h9;replace G:=G.trans d;replace x:=x.gr d;replace q:=q.gr d;clear d
 go_upto_region 10 with fail
 refine wp_wS [.F,.F,.u,.u,.u,.u,.u,.u,.F,.F] [] ⟨⟩ fun aA v5 d av=>?_;simp only[fzw];clear av;replace G:=G.trans d;replace x:=x.gr d;replace q:=q.gr d;replace A:=A.gr d;clear d
 go_upto_region 11 with fail
 refine wp_wS [.F,.T] [] ⟨⟩ fun aB v6 d aw=>?_;simp only[fzw];clear aw;replace G:=G.trans d;replace x:=x.gr d;replace q:=q.gr d;replace A:=A.gr d;clear d
 go_upto_region 12 with fail
 refine wp_wS [.O,.O,.T,.T,.c (pv I 0),.c (.int .i64 k),.c (pv I 37),.c (.agg (pnt (xN k) (yN k) false)),.T,.T,.T] [1,5,7,8] ⟨.y (num_any _),.o 3 0 x rfl (by exact cu_0 _ _ _ _ _ _ _ _ _ _),.g 27 37 x rfl,.z (ap▸on13_yes k D H _ _ false (nN_M k D H).2.2.2.2.1 (nN_M k D H).2.2.2.2.2),⟨⟩⟩ fun aC v7 d ax=>?_;simp only[fzw];clear ax;replace G:=G.trans d;replace x:=x.gr d;replace q:=q.gr d;replace A:=A.gr d;clear d
 go_wp2_with fail
 go_ret
 exact⟨rfl,G⟩
theorem lcoff_any(id bit:Int)(y:Bool)(w:World):Cg 7 #[.int .i64 id,.int .i64 bit,.bool y] w (.bool true):=by
 cases y with
 | true=>exact lcoff_y id bit w
 | false=>exact lcoff_n id bit w
end
end
end Go.Proofs.Ytffhepbppiocbaa