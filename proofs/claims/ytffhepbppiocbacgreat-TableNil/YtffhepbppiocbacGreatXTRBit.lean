import Derived.Test.YtffhepbppiocbacGreatXTRSub
import Derived.Test.YtffhepbppiocbacGreatXTLawA
namespace Go.Proofs.YtffhepbppiocbacGreat
open Go.RowKit Go.Proofs.Tryz
set_option maxRecDepth 100000
set_option maxHeartbeats 8000000
section
attribute [local go_sem ↓] uz1
attribute [local go_sem] uz2
section
theorem bit_dg(x q r:Nat)(h:r<32):dg x q/2^r%2=bitN x (32*q+r):=by
 unfold bitN dg pq;rw[show (4294967296:Nat)=2^32 from rfl,←Nat.shiftRight_eq_div_pow,←Nat.shiftRight_eq_div_pow,←Nat.shiftRight_eq_div_pow]
 have e:∀y,y%2=(y.testBit 0).toNat:=fun y=>by rw[Nat.testBit_zero];rcases Nat.mod_two_eq_zero_or_one y with h|h <;> simp[h]
 rw[e,e,Nat.testBit_shiftRight,Nat.testBit_mod_two_pow,Nat.testBit_shiftRight,Nat.testBit_shiftRight];simp[h]
theorem rbit_conv(x q r:Nat)(h:r<32):bits BinOp.and IntKind.u64 (((dg x q:Nat):Int)/2^r) 1=((bitN x (32*q+r):Nat):Int):=by
 have d:=dg_lt x q;have f:dg x q/2^r≤dg x q:=Nat.div_le_self _ _;rw[int_pow,←Int.natCast_ediv,←bit_dg x q r h];generalize dg x q/2^r=y at *;rw[and_one_u64 _ (by omega) (by omega)]
 omega
theorem rbit_any(x n i:Nat)(p:Option Addr)(w:World)(hp:Sl w p x)(hi:i≤1000000):
 Calls prog 51 #[.slice p (dl x) n,.int .i64 i] w fun e w'=>e=.returned (.int .i64 (bitN x i))∧w'=w:=by
 obtain⟨q,r,d,f⟩:∃q r,i=32*q+r∧r<32:=⟨i/32,i%32,by omega,by omega⟩;have h:=digit_any w p x n q hp;obtain⟨K,j⟩:∃K:Int,K=(i:Int):=⟨_,rfl⟩;rw[←j];obtain⟨B,A⟩:∃B:Nat,bitN x i=B:=⟨_,rfl⟩;have C:=rbit_conv x q r f;rw[←d]at C;rw[A]at C ⊢
 have H:0≤K:=by omega
 have I:K/32=(q:Int):=by omega
 have J:K%32=(r:Int):=by omega
 have P:(q:Int)≤50000:=by omega
 have Q:(B:Int)<2:=by have:=bitN_lt x i;omega
 have D:Hu (_):=fun _=>h;obtain⟨L,G⟩:=exl (dl x);rw[G]at D ⊢;clear h j A d f hp G hi
 go_enter func51,ntmps51
 go_wp2_with (go_at_call 66;refine(D.out ()).mono ?_;rintro e w' ⟨rfl,rfl⟩)
 go_ret
 exact⟨rfl,rfl⟩
theorem nd_two(x:Nat):(#[.int .u32 ((x%4294967296:Nat):Int),.int .u32 ((x/4294967296%4294967296:Nat):Int)]:Array Value)=nd 2 x:=by
 have d:dg x 0=x%4294967296:=by unfold dg;rw[pq_zero,Nat.div_one]
 have f:dg x 1=x/4294967296%4294967296:=rfl;rw[←d,←f]
 rfl
theorem rsmall_any(x:Int)(hx:x≤9223372036854775807)(w:World):
 Calls prog 29 #[.int .i64 x] w (Nm x.toNat w):=by
 by_cases h:0≤x
 ·obtain⟨n,rfl⟩:=Int.eq_ofNat_of_zero_le h;have A:IntKind.u64.wrap (n:Int)=n:=wuA
  have f:n<pq 2:=by
   have:pq 2=18446744073709551616:=by decide
   omega
  rw[Int.toNat_natCast];obtain⟨u,d⟩:=exl (n%4294967296);obtain⟨v,i⟩:=exl (n/4294967296)
  have B:bits BinOp.and IntKind.u64 (n:Int) 4294967295=(u:Int):=by rw[←d];exact Mul64.maskN n (by omega)
  have C:(n:Int)/4294967296=v:=by omega
  have D:(u:Int)%4294967296=u:=by omega
  have G:(v:Int)%4294967296=v:=by omega
  have H:¬(n:Int)<0:=by omega
  have I:(#[.int .u32 u,.int .u32 v]:Array Value)=nd 2 n:=by
   rw[←nd_two n,d,i,Nat.mod_eq_of_lt (show v<4294967296 by omega)]
  have j:Hu (_):=fun _=>f;clear f d i hx h
  go_enter func29,ntmps29
  go_wp2_with (go_at_call 52;refine(trim_nd _ _ 2 n (by decide) (j.out ()) (by simp[go_sem])).mono ?_;rintro e J ⟨rfl,rfl⟩)
  go_ret
  exact Nm.mk rfl (j.out ()) (by simp[go_sem]) (by simp[go_sem]) grA
 ·have q:x.toNat=0:=by omega
  have K:x<0:=by omega
  rw[q];clear q h hx
  go_enter func29,ntmps29
  go_wp2
  go_ret
  exact⟨none,0,rfl,Sl.zero _ _,grA⟩
end
end
end Go.Proofs.YtffhepbppiocbacGreat