import Derived.Test.YtiigakdbabijhaaGreatXAZJ
import Derived.Test.YtiigakdbabijhaaGreatXAAT
import Derived.Test.YtiigakdbabijhaaGreatXACT
namespace Go.Proofs.YtiigakdbabijhaaGreat
open Go.RowKit Go.Proofs.Tryz
set_option maxRecDepth 100000
set_option maxHeartbeats 8000000
section
attribute [local go_sem ↓] uz1
attribute [local go_sem] uz2
section
theorem tiny_sz{k:Nat}(h1:13≤k)(h2:k≤15):szN k=1:=by
 obtain rfl|rfl|rfl:k=13∨k=14∨k=15:=by omega
 all_goals decide +kernel
theorem u8n{x:Nat}(h:x<256):(UInt8.ofNat x).toNat=x:=by
 rw[UInt8.toNat_ofNat']
 omega
theorem bn_one{x:Nat}(h:x<256):bn [UInt8.ofNat x]=x:=by
 show 0*256+(UInt8.ofNat x).toNat=x
 rw[u8n h]
 omega
theorem gt_tiny{k x y:Nat}(h1:13≤k)(h2:k≤15)(hx:x<256)(hy:y<256):gtL k [4,UInt8.ofNat x,UInt8.ofNat y]=bif onB k x y false then(x,y,0) else(0,0,2101):=by
 rw[gtL_cons,if_pos ⟨rfl,by rw[tiny_sz h1 h2];rfl⟩,tiny_sz h1 h2]
 show (bif onB k (bn [UInt8.ofNat x]) (bn [UInt8.ofNat y]) false then(bn [UInt8.ofNat x],bn [UInt8.ofNat y],(0:Int)) else(0,0,2101))=_
 rw[bn_one hx,bn_one hy]
theorem cv3{x y:Nat}{S:ByteArray}(hx:x<256)(hy:y<256)(hS:⟨[4,UInt8.ofNat x,UInt8.ofNat y].toArray⟩=S)(v:World)(b:Nat)(h:blk v b =#[.int .u8 4,.int .u8 x,.int .u8 y]):(cvT (.slice (some ⟨b,0,none⟩) 3 3)).run prog v=.ok (.string S) v:=
 hS▸cvT_blk [4,UInt8.ofNat x,UInt8.ofNat y] v b (by rw[h,List.map_cons,List.map_cons,List.map_cons,List.map_nil,u8n hx,u8n hy];rfl)
attribute [local go_sem] uz8
attribute [local go_sem ↓] cvT_is bsB_is bsl_is loadC_is storeC_is loadPt_is storePt_is zvPt_is buildPt_is loadPn_is storePn_is zvPn_is loadCu_is storeCu_is zvCu_is buildCu_is buildPn_is Go.wp_at_zero Go.wp_at_succ
attribute [local go_sem] bsB2 bsB3 loadC storeC0 storeCr crA_size loadPt storePt zvPt ptA_size loadPn storePn zvPn pnt_size loadCu storeCu zvCu cu_size buildCu0 buildPnI buildPn2 loadCP loadCA loadCB loadCN loadCG loadCX loadCY cu_P cu_A cu_B cu_N cu_G cu_X cu_Y frz_setBlk blk_setBlk setBlk_setBlk blk_other
theorem lzwhole_any(id:Int)(w:World):Cg 9 #[.int .i64 id] w (.bool true):=by
 obtain⟨u,hu,aj,hk⟩:=idxT_conv id;have V:=idxT_bd id;obtain⟨k,W⟩:=exl (idxT id);rw[W]at hk V;obtain⟨q,H⟩:=V
 have h1:1≤k:=by omega
 have u0:(0:Int)≤u:=by omega
 have ak:(13:Int)+u%3=k:=by omega
 have ao:IntKind.i64.wrap ((u:Int)%3)=(u:Int)%3:=by rw[IntKind.wrap_i64];omega
 have ap:IntKind.u64.wrap ((u:Int)%3)=(u:Int)%3:=by rw[IntKind.wrap_u64];omega
 have aq:(u:Int).tmod 3=(u:Int)%3:=by rw[Int.tmod_eq_emod_of_nonneg (by omega)]
 have k0:(1:Int)≤k:=by omega
 have k1:(k:Int)≤15:=by omega
 have ar:id%18446744073709551616=(u:Int):=by rw[←hu,IntKind.wrap_u64]
 clear W hk;have X:Hid (∀w,Calls prog 10 #[.int .i64 k] w (GetQ k w)):=fun w=>getq_yes k h1 H w;have Y:Hid (∀w,Cg 14 #[] w (.bool true)):=fun w=>awake21_any w
 go_enter func9,ntmps9
 go_upto_region 6 with (first
  | (go_at_call 14;refine(Y.out _).mono ?_;rintro e WA ⟨rfl,GA⟩)
  | (go_at_call 10;refine(X.out _).mono ?_;rintro e WB ⟨C,rfl,Z,GB⟩))
 obtain⟨A,I⟩:=exl (WB.heap.size);simp only[I]
 refine gen_w (fun v=>Gr w v∧Vr v A (crA (k:Int) (nN k) C)∧∀j,Sl v (C j).1 (nN k j)) ?_ ?_
 ·subst I;exact⟨(GA.trans GB).alloc _,Vr.new _ _ _,fun j=>(Z j).gr ((Gr.refl _).alloc _)⟩
 clear I GA GB Z Y X hu aj ak ao ap aq ar u0 k0 k1;rintro v0 ⟨G,f,Z⟩;obtain⟨m,hm⟩:=exl (oN k);have hb:=tinyP k q H;have J:=tinyT_bd k q H;rw[hm]at hb J;have D:dl (oN k)=1:=tiny_dl k q H;obtain⟨bp,aa,-,ab⟩:=Z 3 0 (by show 0<dl (oN k);rw[D];decide)
 have au:v0.cell? ⟨bp,0,none⟩=some (.int .u32 m):=by
  rw[cell_blk,ab]
  show some (Value.int .u32 ((dg (oN k) 0:Nat):Int))=_
  rw[hm,show dg m 0=m by unfold dg;rw[pq_zero,Nat.div_one];exact Nat.mod_eq_of_lt (by omega)]
 have k4:v0.cell? ⟨A,4,none⟩=some (.slice (some ⟨bp,0,none⟩) 1 (C 3).2):=by
  rw[f.cell,←aa,←D];rfl
 have m1:(200:Int)≤m:=by omega
 have m2:(m:Int)≤255:=by omega
 have ac:Hu (allT k 256+1=m):=fun _=>J.2.2.2.2;clear J;have i:Hid (Gr w v0∧Vr v0 A (crA (k:Int) (nN k) C)):=⟨G,f⟩;clear G f Z
 go_wp2_with fail
 clear k4 au ab aa
 go_loopw [6,7] (fun a6 a7 wr=>∃x c:Nat,a6=.int .u64 c∧a7=.int .i64 x∧Hu (x≤256∧allT k x=c)∧Hid (Gr w wr∧Vr wr A (crA (k:Int) (nN k) C))) (fun _ a7 _=>256-(intOf a7).toNat)
 case atStart=>exact⟨0,0,rfl,rfl,fun _=>⟨by decide,rfl⟩,i⟩
 case round=>
  clear i;obtain⟨x,c,rfl,rfl,HX,i⟩:=hrel
  have x0:(0:Int)≤x:=by omega
  have c0:(0:Int)≤c:=by omega
  have ay:c≤65536:=by have:=HX.out ();have:=allT_le k x;omega
  by_cases hx:x<256
  ·have x1:(x:Int)<256:=by omega
   go_wp2_with fail
   go_loopw [6,8] (fun a6 a8 wr=>∃y d:Nat,a6=.int .u64 d∧a8=.int .i64 y∧Hu (y≤256∧c+rowTy k x y=d)∧Hid (Gr w wr∧Vr wr A (crA (k:Int) (nN k) C))) (fun _ a8 _=>256-(intOf a8).toNat)
   case atStart=>exact⟨0,c,rfl,rfl,fun _=>⟨by decide,rfl⟩,i⟩
   case round=>
    clear i;obtain⟨y,d,rfl,rfl,HY,i⟩:=hrel
    have y0:(0:Int)≤y:=by omega
    have d0:(0:Int)≤d:=by omega
    have az:(d:Int)≤65792:=by have:=HY.out ();have:=rowT_le k x y;omega
    by_cases hy:y<256
    ·have y1:(y:Int)<256:=by omega
     have aA:IntKind.u8.wrap (x:Int)=x:=by rw[IntKind.wrap_u8];omega
     have aB:IntKind.u8.wrap (y:Int)=y:=by rw[IntKind.wrap_u8];omega
     have ae:IntKind.u64.wrap (x:Int)=x:=wuA;have af:IntKind.u64.wrap (y:Int)=y:=wuA;obtain⟨S,hS⟩:∃S:ByteArray,⟨[4,UInt8.ofNat x,UInt8.ofNat y].toArray⟩=S:=⟨_,rfl⟩;have ag:=cv3 hx hy hS;have B:=gt_tiny q H hx hy;have⟨G,f⟩:=i.out;obtain⟨r,U⟩:=exl (onB k x y false)
     cases r with
     | false=>
      have K:Hu (y+1≤256∧c+rowTy k x (y+1)=d):=fun _=>⟨hy,by have:=(HY.out ()).2;rw[rowTy,U];exact this⟩
      have l:Hid (∀w,Cg 12 #[.int .i64 k,.string S] w (.tuple #[.agg (pnt 0 0 false),.int .i64 2101])):=fun w=>by have t:=sget_any h1 H _ (B.trans (by rw[U,cond_false])) w;rwa [hS]at t
      clear i U B hS
      have k9:wr.cell? ⟨A,0,none⟩=some (.int .i64 k):=by rw[f.cell];rfl
      go_upto_region 15 with (go_at_call 12;refine(l.out _).mono ?_;rintro e WG ⟨rfl,L⟩)
      obtain⟨e8,h⟩:=exl (WG.heap.size);simp only[h];refine gen_w (fun P=>Gr w P∧Vr P A (crA (k:Int) (nN k) C)∧Vr P e8 (pnt 0 0 false)) ⟨((G.alloc _).trans L).alloc _,((f.gr ((Gr.refl _).alloc _)).gr L).gr ((Gr.refl _).alloc _),by subst h;exact Vr.new _ _ _⟩ ?_;clear h L k9 ag l G f;rintro v5 ⟨G,f,c8⟩
      go_wp2_with (go_at_call 13;refine(num_any _ _).mono ?_;rintro e w' ⟨rfl,Q⟩;replace Q:=Q.symm;subst Q)
      go_roundw
      case rel=>exact⟨y+1,d,rfl,by go_num,K.out,G,f⟩
      case measure=>simp[intOf];omega
     | true=>
      have K:Hu (y+1≤256∧c+rowTy k x (y+1)=d+1):=fun _=>⟨hy,by have:=(HY.out ()).2;rw[rowTy,U];show c+(rowTy k x y+1)=d+1;omega⟩
      have l:Hid (∀w,Cg 12 #[.int .i64 k,.string S] w (.tuple #[.agg (pnt x y false),.int .i64 0])):=fun w=>by have t:=sget_any h1 H _ (B.trans (by rw[U,cond_true])) w;rwa [hS]at t
      have wx:x<18446744073709551616:=by omega
      have wy:y<18446744073709551616:=by omega
      clear i U B hS
      have k9:wr.cell? ⟨A,0,none⟩=some (.int .i64 k):=by rw[f.cell];rfl
      go_upto_region 15 with (go_at_call 12;refine(l.out _).mono ?_;rintro e WG ⟨rfl,L⟩)
      obtain⟨e8,h⟩:=exl (WG.heap.size);simp only[h];refine gen_w (fun P=>Gr w P∧Vr P A (crA (k:Int) (nN k) C)∧Vr P e8 (pnt x y false)) ⟨((G.alloc _).trans L).alloc _,((f.gr ((Gr.refl _).alloc _)).gr L).gr ((Gr.refl _).alloc _),by subst h;exact Vr.new _ _ _⟩ ?_;clear h L k9 ag l G f;rintro v5 ⟨G,f,c8⟩
      go_upto_region 17 with (go_at_call 13;refine(num_any _ _).mono ?_;rintro e w' ⟨rfl,Q⟩;replace Q:=Q.symm;subst Q)
      go_upto_region 17 with fail
      refine wp_w [.c (.agg (pnt x y false)),.c (.int .i64 x),.c (.int .u64 x),.N x,.c (.int .i64 y),.c (.int .u64 y),.N y,.c (.agg (pnt x y false)),.F] [0,2,3,5,6,8] ⟨.g 27 0 c8 rfl,.s (.convert 3 22 (.const (.int .i64 x))) rfl fun vv R=>by simp[go_sem,exI,ae],.z (one_any _ wx),.s (.convert 3 22 (.const (.int .i64 y))) rfl fun vv R=>by simp[go_sem,exI,af],.z (one_any _ wy),.s (.binOp .neq 27 (.const (.agg (pnt x y false))) (.const (.agg (pnt x y false))) 27) rfl fun vv R=>by simp[go_sem,exI,nePn,eqN_self],⟨⟩⟩ fun ax v1 R av=>?_;simp only[fzw];clear av;replace G:=G.trans R;replace c8:=c8.gr R;replace f:=f.gr R;clear R
      go_wp2_with fail
      go_roundw
      case rel=>exact⟨y+1,d+1,by go_num,by go_num,K.out,G,f⟩
      case measure=>simp[intOf];omega
    ·have ah:y=256:=by have:=(HY.out ()).1;omega
     have y1:¬(y:Int)<256:=by omega
     have aw:Hu (x+1≤256∧allT k (x+1)=d):=fun _=>⟨hx,by rw[allT,(HX.out ()).2,←ah];exact(HY.out ()).2⟩;clear ah
     go_wp2_with fail
     go_roundw
     case rel=>exact⟨x+1,d,rfl,by go_num,aw.out,i⟩
     case measure=>simp[intOf];omega
  ·have ai:x=256:=by have:=(HX.out ()).1;omega
   have x1:¬(x:Int)<256:=by omega
   have⟨G,f⟩:=i.out
   have hc:(c:Int)=m-1:=by
    have t:c+1=m:=by rw[←(HX.out ()).2,ai];exact ac.out ()
    omega
   clear ai i
   go_wp2_with fail
   go_ret
   exact⟨rfl,G⟩
end
end
end Go.Proofs.YtiigakdbabijhaaGreat