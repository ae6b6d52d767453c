import Derived.Test.YtffhepbppiocbaaXBCW
import Derived.Test.YtffhepbppiocbaaXBEB
import Derived.Test.YtffhepbppiocbaaRows
namespace Go.Proofs.Ytffhepbppiocbaa
open Go.RowKit Go.Proofs.Try
set_option maxRecDepth 100000
set_option maxHeartbeats 8000000
section
attribute [local go_sem ↓] uz1
attribute [local go_sem] uz2
section
attribute [local go_sem] uz7
attribute [local go_sem ↓] bsl_is loadC_is storeC_is loadPt_is storePt_is zvPt_is buildPt_is loadPn_is storePn_is zvPn_is loadCu_is storeCu_is zvCu_is buildCu_is buildPn_is Go.wp_at_zero Go.wp_at_succ
attribute [local go_sem] loadC storeC0 storeCr crA_size loadPt storePt zvPt ptA_size loadPn storePn zvPn pnt_size loadCu storeCu zvCu cu_size buildCu0 buildPnI buildPn2 loadCP loadCA loadCB loadCN loadCG loadCX loadCY cu_P cu_A cu_B cu_N cu_G cu_X cu_Y frz_setBlk blk_setBlk setBlk_setBlk blk_other
theorem lctiny_any(id:Int)(w:World):Cg 8 #[.int .i64 id] w (.bool true):=by
 obtain⟨u,hu,ab,hk⟩:=idxT_conv id;have H:=idxT_bd id;obtain⟨k,I⟩:=exl (idxT id);rw[I]at hk H;obtain⟨f,h2⟩:=H
 have h1:1≤k:=by omega
 have u0:(0:Int)≤u:=by omega
 have ac:(13:Int)+u%3=k:=by omega
 have ad:IntKind.i64.wrap ((u:Int)%3)=(u:Int)%3:=by rw[IntKind.wrap_i64];omega
 have ae:IntKind.u64.wrap ((u:Int)%3)=(u:Int)%3:=by rw[IntKind.wrap_u64];omega
 have af:(u:Int).tmod 3=(u:Int)%3:=by rw[Int.tmod_eq_emod_of_nonneg (by omega)]
 have k0:(1:Int)≤k:=by omega
 have k1:(k:Int)≤15:=by omega
 have ag:id%18446744073709551616=(u:Int):=by rw[←hu,IntKind.wrap_u64]
 clear I hk;have HG:Hid (∀w,Cg 9 #[.int .i64 k] w (.tuple #[.agg (cuK k),.int .i64 0])):=fun w=>get13_yes k h1 h2 w;have J:Hid (∀w,Cg 14 #[] w (.bool true)):=fun w=>awake13_any w;obtain⟨P,hP⟩:=exl (pN k);obtain⟨N,hN⟩:=exl (oN k);have K:=tinyT_bd k f h2;rw[hP,hN]at K;obtain⟨p1,p2,n1,n2,q⟩:=K;have L:Hu (allT k 256+1=N):=fun _=>q;clear q;have ah:Hid (∀x y,x<256→onB k x y false=true→x<P∧y<P∧y≠0):=fun x y hx h=>hP▸onT_y k f h2 x y hx h
 have Q:(cuK k)[1]? = some (.int .u64 P):=by rw[cu_1,hP,wd_small _ (by omega)]
 have S:(cuK k)[28]? = some (.int .u64 N):=by rw[cu_28,hN,wd_small _ (by omega)]
 have P1:(200:Int)<P:=by omega
 have P2:(P:Int)<256:=by omega
 have P3:¬(P:Int) > 255:=by omega
 have N1:(200:Int)<N:=by omega
 have N2:(N:Int)<256:=by omega
 clear hP hN p1 p2 n1 n2 f;have U:Hu ((cuK k)[1]? = some (.int .u64 P)):=fun _=>Q;have ai:Hu ((cuK k)[28]? = some (.int .u64 N)):=fun _=>S;clear Q S
 go_enter func8,ntmps8
 go_upto_region 4 with (first
  | (go_at_call 14;refine(J.out _).mono ?_;rintro e WA ⟨rfl,GA⟩)
  | (go_at_call 9;refine(HG.out _).mono ?_;rintro e WB ⟨rfl,GB⟩))
 obtain⟨A,B⟩:=exl (WB.heap.size);simp only[B]
 refine gen_w (fun v=>Hid (Gr w v∧Vr v A (cuK k))) ?_ ?_
 ·subst B;exact⟨(GA.trans GB).alloc _,Vr.new WB _ _⟩
 clear B GA GB;intro v0 i
 have K1:v0.cell? ⟨A,1,none⟩=some (.int .u64 P):=by rw[i.out.2.cell];exact U.out ()
 clear HG J hu ab ac ad ae af ag u0 k0 k1
 go_wp2_with (go_at_call 13;refine(num_any _ _).mono ?_;rintro e V ⟨rfl,rfl⟩)
 go_loopw [5,6] (fun a5 a6 wr=>∃x c:Nat,a5=.int .u64 c∧a6=.int .u64 x∧Hu (x≤256∧allT k x=c)∧Hid (Gr w wr∧Vr wr A (cuK k))) (fun _ a6 _=>256-(intOf a6).toNat)
 case atStart=>exact⟨0,0,rfl,rfl,fun _=>⟨by decide,rfl⟩,i⟩
 case round=>
  clear i K1;obtain⟨x,c,rfl,rfl,HX,i⟩:=hrel
  have x0:(0:Int)≤x:=by omega
  have c0:(0:Int)≤c:=by omega
  have ao:c≤65536:=by have:=HX.out ();have:=allT_le k x;omega
  by_cases hx:x<256
  ·have x1:(x:Int)<256:=by omega
   go_wp2_with fail
   go_loopw [5,7] (fun a5 a7 wr=>∃y d:Nat,a5=.int .u64 d∧a7=.int .u64 y∧Hu (y≤256∧c+rowTy k x y=d)∧Hid (Gr w wr∧Vr wr A (cuK k))) (fun _ a7 _=>256-(intOf a7).toNat)
   case atStart=>exact⟨0,c,rfl,rfl,fun _=>⟨by decide,rfl⟩,i⟩
   case round=>
    clear i;obtain⟨y,d,rfl,rfl,W,i⟩:=hrel
    have y0:(0:Int)≤y:=by omega
    have d0:(0:Int)≤d:=by omega
    have ap:(d:Int)≤65792:=by have:=W.out ();have:=rowT_le k x y;omega
    by_cases hy:y<256
    ·have y1:(y:Int)<256:=by omega
     obtain⟨r,D⟩:=exl (onB k x y false);have X:Hid (∀V,Calls prog 16 #[.int .i64 k,.agg (pnt x y false)] V fun e aj=>e=.returned (.bool r)∧Gr V aj):=fun V=>D▸on13_yes k h1 h2 x y false (lt_M _ (by omega)) (lt_M _ (by omega)) V;have⟨G,j⟩:=i.out
     cases r with
     | false=>
      have C:Hu (y+1≤256∧c+rowTy k x (y+1)=d):=fun _=>⟨hy,by have:=(W.out ()).2;rw[rowTy,D];exact this⟩;clear i
      go_upto_region 13 with fail
      refine wp_w [.c (pv A 0),.c (.int .i64 k),.c (.int .u64 x),.N x,.c (.int .u64 y),.N y,.c (.agg (pnt x y false)),.F] [1,3,5,6,7] ⟨.o 3 0 j rfl (by exact cu_0 _ _ _ _ _ _ _ _ _ _),.z (one_any x (by omega)),.z (one_any y (by omega)),.s (.build 27 #[(0,(.const (.agg (nw 9 x)))),(1,(.const (.agg (nw 9 y))))]) rfl fun vv l=>by simp[go_sem,exI,buildPn2],.z X.out,⟨⟩⟩ fun Y v1 l f=>?_;simp only[fzw];clear f;replace G:=G.trans l;replace j:=j.gr l;clear l;clear D
      go_wp2_with fail
      go_roundw
      case rel=>exact⟨y+1,d,rfl,by go_num,C.out,G,j⟩
      case measure=>simp[intOf];omega
     | true=>
      obtain⟨q1,q2,q3⟩:=ah.out x y hx D
      have q4:¬(x:Int) ≥ (P:Int):=by omega
      have q5:¬(y:Int) ≥ (P:Int):=by omega
      have q6:¬(y:Int)=0:=by omega
      have q7:¬(P:Int)≤x:=by omega
      have q8:¬(P:Int)≤y:=by omega
      have q9:(x:Int)<P:=by omega
      have aq:(y:Int)<P:=by omega
      have C:Hu (y+1≤256∧c+rowTy k x (y+1)=d+1):=fun _=>⟨hy,by have:=(W.out ()).2;rw[rowTy,D];show c+(rowTy k x y+1)=d+1;omega⟩;clear i
      go_upto_region 13 with fail
      refine wp_w [.c (pv A 0),.c (.int .i64 k),.c (.int .u64 x),.N x,.c (.int .u64 y),.N y,.c (.agg (pnt x y false)),.T] [1,3,5,6,7] ⟨.o 3 0 j rfl (by exact cu_0 _ _ _ _ _ _ _ _ _ _),.z (one_any x (by omega)),.z (one_any y (by omega)),.s (.build 27 #[(0,(.const (.agg (nw 9 x)))),(1,(.const (.agg (nw 9 y))))]) rfl fun vv l=>by simp[go_sem,exI,buildPn2],.z X.out,⟨⟩⟩ fun Y v1 l f=>?_;simp only[fzw];clear f;replace G:=G.trans l;replace j:=j.gr l;clear l;clear D
      have K1:v1.cell? ⟨A,1,none⟩=some (.int .u64 P):=by rw[j.cell];exact U.out ()
      go_wp2_with fail
      go_roundw
      case rel=>exact⟨y+1,d+1,by go_num,by go_num,C.out,G,j⟩
      case measure=>simp[intOf];omega
    ·have Z:y=256:=by have:=(W.out ()).1;omega
     have y1:¬(y:Int)<256:=by omega
     have ak:Hu (x+1≤256∧allT k (x+1)=d):=fun _=>⟨hx,by rw[allT,(HX.out ()).2,←Z];exact(W.out ()).2⟩;clear Z
     go_wp2_with fail
     go_roundw
     case rel=>exact⟨x+1,d,rfl,by go_num,ak.out,i⟩
     case measure=>simp[intOf];omega
  ·have aa:x=256:=by have:=(HX.out ()).1;omega
   have x1:¬(x:Int)<256:=by omega
   have⟨G,j⟩:=i.out
   have ar:wr.cell? ⟨A,28,none⟩=some (.int .u64 N):=by rw[j.cell];exact ai.out ()
   have hc:(c:Int)=N-1:=by
    have t:c+1=N:=by rw[←(HX.out ()).2,aa];exact L.out ()
    omega
   clear aa i
   go_wp2_with fail
   go_ret
   exact⟨rfl,G⟩
end
end
end Go.Proofs.Ytffhepbppiocbaa