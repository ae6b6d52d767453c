import Derived.Test.YtghidgcekieljaaGreatXAAdd
import Derived.Test.YtghidgcekieljaaGreatXALib
import Derived.Test.YtghidgcekieljaaGreatXADig
namespace Go.Proofs.YtghidgcekieljaaGreat
open Go.RowKit Go.Proofs.Tryz
set_option maxRecDepth 100000
set_option maxHeartbeats 8000000
section
attribute [local go_sem ↓] uz1
attribute [local go_sem] uz2
section
theorem mul_raw(a b:Nat)(hb:b<M)(w:World):
 Cg 160 #[.agg (nw 9 a),.agg (nw 9 b)] w (.agg (nw 18 ((a%pw 9)*b))):=by
 have HB:Hid _:=hb;clear hb
 go_enter func160,ntmps160
 go_wp2
 go_loopw [13] (fun i wr=>∃k:Nat,k≤9∧i=.int .i64 k∧wr=((((w.alloc (.cells (nw 9 a) 25)).alloc (.cells (nw 9 b) 25)).alloc (.cells (nw 18 0) 208)).alloc (.cells (nw 18 ((a%pw k)*b)) 208))) (fun i _=>9-(intOf i).toNat)
 case atStart=>exact⟨0,by omega,rfl,by rw[pw_zero,Nat.mod_one,Nat.zero_mul,nw18_zero]⟩
 case round=>
  obtain⟨k,hk,rfl,rfl⟩:=hrel
  by_cases hlt:k<9
  ·have hl0:(0:Int)≤(k:Int):=by omega
   have hl1:(k:Int)<9:=by omega
   have ga:=nw_get 9 a k hlt;have HK:Hid _:=hlt
   go_wp2
   go_loopw [8,19] (fun c j wr=>∃m d V:Nat,m≤9∧j=.int .i64 m∧c=.int .u64 d∧d<18446744073709551616∧V<pw (k+9)∧V+d*pw (k+m)=(a%pw k)*b+wd a k*pw k*(b%pw m)∧wr=((((w.alloc (.cells (nw 9 a) 25)).alloc (.cells (nw 9 b) 25)).alloc (.cells (nw 18 0) 208)).alloc (.cells (nw 18 V) 208))) (fun _ j _=>9-(intOf j).toNat)
   case atStart=>exact⟨0,0,(a%pw k)*b,by omega,rfl,rfl,by omega,mul_bound a b k HB.out,by rw[pw_zero,Nat.mod_one,Nat.zero_mul,Nat.mul_zero],rfl⟩
   case round=>
    obtain⟨m,d,V,hm,rfl,rfl,hd,hV,he,rfl⟩:=hrel;have HD:Hid _:=hd;have HV:Hid _:=hV;have HE:Hid _:=he;clear hd hV he
    by_cases hmt:m<9
    ·have hm0:(0:Int)≤(m:Int):=by omega
     have hm1:(m:Int)<9:=by omega
     have gb:=nw_get 9 b m hmt
     have hkm:k+m<18:=by omega
     have gV:=nw_get 18 V (k+m) hkm;obtain⟨lo,hi,hlo,hhi⟩:∃lo hi:Nat,(wd a k*wd b m+wd V (k+m)+d)%18446744073709551616=lo∧(wd a k*wd b m+wd V (k+m)+d)/18446744073709551616=hi:=⟨_,_,rfl,rfl⟩;have cm:=fun w=>mulAdd_any (wd a k) (wd b m) (wd V (k+m)) d (wd_lt _ _) (wd_lt _ _) (wd_lt _ _) HD.out w;rw[hlo,hhi]at cm;have CM:Hid _:=cm;have HL:Hid _:=hlo;have HH:Hid _:=hhi;clear cm hlo hhi
     go_wp2_with (go_at_call 165;refine(CM.out _).mono ?_;rintro e w' ⟨rfl,rfl⟩)
     go_roundw
     case rel=>
      have hlo:lo<18446744073709551616:=by rw[←HL.out];exact Nat.mod_lt _ (by decide)
      refine⟨m+1,hi,wset V (k+m) lo,by omega,by go_num,rfl,?_,wset_lt _ _ _ _ HV.out (by omega) hlo,?_,?_⟩
      ·rw[←HH.out];exact mulAdd_lt _ _ _ _ (wd_lt _ _) (wd_lt _ _) (wd_lt _ _) HD.out
      ·rw[←HL.out,←HH.out];exact mul_step a b k m V d HE.out
      ·rw[nw_wset 18 V (k+m) lo hlo]
     case measure=>simp[intOf];omega
    ·have hm9:Hid (m=9):=show m=9 from by omega
     have hk9:k+9<18:=by omega
     have gV:=nw_get 18 V (k+9) hk9
     have hmi:¬((m:Int)<9):=by omega
     clear hm hmt
     go_wp2_with fail
     go_roundw
     case rel=>
      refine⟨k+1,by omega,by go_num,?_⟩;have e:=HE.out;rw[hm9.out]at e;rw[←mul_last a b k V d HB.out e,nw_set_top 18 V (k+9) d HD.out HV.out]
     case measure=>simp[intOf];omega
  ·have hk9:Hid (k=9):=show k=9 from by omega
   go_wp2
   exact bodyPost_ret (v:=.agg (nw 18 ((a%pw k)*b))) (by simp[results,results160,go_sem,nw18_lit]) rfl ⟨by rw[hk9.out],(((((Gr.refl w).alloc _).alloc _).alloc _).alloc _)⟩
theorem mul_any(a b:Nat)(ha:a<M)(hb:b<M)(w:World):
 Cg 160 #[.agg (nw 9 a),.agg (nw 9 b)] w (.agg (nw 18 (a*b))):=by
 refine(mul_raw a b hb w).mono fun e w' h=>⟨?_,h.2⟩;rw[h.1,show a%pw 9=a from Nat.mod_eq_of_lt ha]
end
section
theorem bits_any(a:Nat)(ha:a<M)(w:World):
 Cg 64 #[.agg (nw 9 a)] w (.int .i64 (bl a)):=by
 have HS:Hid _:=Nat.div_eq_of_lt ha;clear ha
 go_enter func64,ntmps64
 go_wp2
 go_loopw [3] (fun i wr=>∃k:Nat,k≤9∧i=.int .i64 ((k:Int)-1)∧a/pw k=0∧wr=w.alloc (.cells (nw 9 a) 25)) (fun i _=>(intOf i+1).toNat)
 case atStart=>exact⟨9,by omega,rfl,HS.out,rfl⟩
 case round=>
  obtain⟨k,hk,rfl,he,rfl⟩:=hrel;have HE:Hid _:=he;clear he HS
  by_cases hp:0<k
  ·obtain⟨j,rfl⟩:∃j,k=j+1:=⟨k-1,by omega⟩
   have hj:j<9:=by omega
   have e1:(((j+1:Nat):Int)-1)=(j:Int):=by omega
   rw[e1]
   have hj0:(0:Int)≤(j:Int):=by omega
   have hj1:(j:Int)<9:=by omega
   have ga:=nw_get 9 a j hj;clear e1 hk hp
   by_cases hc:wd a j=0
   ·have hci:(((wd a j:Nat):Int) != 0)=false:=by rw[hc];rfl
    have HC:Hid _:=div_zero_of a j HE.out hc;clear hc
    go_wp2
    go_roundw
    case rel=>exact⟨j,by omega,rfl,HC.out,by trivial⟩
    case measure=>simp[intOf]
   ·have hci:(((wd a j:Nat):Int) != 0)=true:=by rw[bne_iff_ne];omega
    have hw:=wd_lt a j;have HC:Hid _:=bl_top a j HE.out hc;have h64:=bl_le64 _ hw;have cl:=fun w=>len64 ((wd a j:Nat):Int) w (by omega) (by omega);rw[Int.toNat_natCast,bl_lib _ hw]at cl;obtain⟨q,hq⟩:=exl (bl (wd a j));rw[hq]at cl h64;have CL:Hid _:=cl;have HQ:Hid _:=hq
    go_wp2_with (go_at_call 86;refine(CL.out _).mono ?_;rintro e w' ⟨rfl,rfl⟩)
    go_ret
    refine⟨congrArg Ending.returned (congrArg (Value.int IntKind.i64) ?_),grA⟩;rw[HC.out,HQ.out]
    omega
  ·obtain rfl:k=0:=by omega
   have HC:Hid (bl a=0):=by
    have e:=HE.out;rw[pw_zero,Nat.div_one]at e;rw[e];exact bl_zero
   go_wp2
   go_ret
   exact⟨congrArg (fun z:Nat=>Ending.returned (Value.int IntKind.i64 (z:Int))) HC.out.symm,grA⟩
def bitN(a i:Nat):Nat:=a/2^i%2
theorem bit_wd(a q r:Nat)(h:r<64):wd a q/2^r%2=bitN a (64*q+r):=by
 obtain⟨d,hd⟩:∃d,64=r+(1+d):=⟨63-r,by omega⟩
 have e:(18446744073709551616:Nat)=2^r*(2*2^d):=by
  rw[show (2:Nat)*2^d=2^(1+d) from by rw[Nat.pow_add],←Nat.pow_add,←hd]
 unfold bitN wd pw;rw[e,Nat.mod_mul_right_div_self,Nat.mod_mul_right_mod,Nat.div_div_eq_div_mul,←Nat.pow_add]
end
section
theorem bit_conv(a q r:Nat)(h:r<64):bits BinOp.and IntKind.u64 (((wd a q:Nat):Int)/2^r) 1=((bitN a (64*q+r):Nat):Int):=by
 have h1:=wd_lt a q;have h2:wd a q/2^r≤wd a q:=Nat.div_le_self _ _;rw[int_pow,←Int.natCast_ediv,←bit_wd a q r h];generalize wd a q/2^r=y at *;rw[and_one_u64 _ (by omega) (by omega)]
 omega
theorem bitN_lt(a i:Nat):bitN a i<2:=Nat.mod_lt _ (by decide)
theorem bit_raw(a q r:Nat)(hq:q<9)(hr:r<64)(w:World):
 Cg 66 #[.agg (nw 9 a),.int .i64 ((64*q+r:Nat):Int)] w (.int .i64 (bitN a (64*q+r))):=by
 obtain⟨K,hK⟩:∃K:Int,K=((64*q+r:Nat):Int):=⟨_,rfl⟩;rw[←hK];obtain⟨B,hB⟩:∃B:Nat,bitN a (64*q+r)=B:=⟨_,rfl⟩;rw[hB]
 have k0:¬K<0:=by omega
 have k1:K<576:=by omega
 have k2:0≤K:=by omega
 have q1:K/64=(q:Int):=by omega
 have q2:K%64=(r:Int):=by omega
 have hb:=bit_conv a q r hr;rw[hB]at hb
 have b1:(B:Int)<2:=by have:=bitN_lt a (64*q+r);omega
 clear hK hB
 go_enter func66,ntmps66
 go_wp2
 go_ret
 exact⟨rfl,grA⟩
theorem bit_any(a i:Nat)(h:i<576)(w:World):
 Cg 66 #[.agg (nw 9 a),.int .i64 (i:Int)] w (.int .i64 (bitN a i)):=by
 have e:i=64*(i/64)+i%64:=by omega
 have h:=bit_raw a (i/64) (i%64) (by omega) (by omega) w;rw[←e]at h;exact h
theorem mask_word(x k:Nat)(hx:x<18446744073709551616)(hk:k<64):bits BinOp.and IntKind.u64 (x:Int) (IntKind.u64.wrap (IntKind.u64.wrap (2^k)-1))=((x%2^k:Nat):Int):=by
 have h1:=pow_lt64 k hk;have h2:=Nat.two_pow_pos k
 have e:IntKind.u64.wrap (IntKind.u64.wrap (2^k)-1)=((2^k-1:Nat):Int):=by
  rw[int_pow,IntKind.wrap_u64,IntKind.wrap_u64];omega
 rw[e,bits_and_u64_nat _ _ hx (by omega),Nat.and_two_pow_sub_one_eq_mod]
end
end
end Go.Proofs.YtghidgcekieljaaGreat