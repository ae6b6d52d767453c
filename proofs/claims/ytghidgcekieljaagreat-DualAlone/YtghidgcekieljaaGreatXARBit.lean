import Derived.Test.YtghidgcekieljaaGreatXARSub
import Derived.Test.YtghidgcekieljaaGreatXALawA
namespace Go.Proofs.YtghidgcekieljaaGreat
open Go.RowKit Go.Proofs.Tryz
set_option maxRecDepth 100000
set_option maxHeartbeats 8000000
section
attribute [local go_sem ↓] uz1
attribute [local go_sem] uz2
section
theorem bit_dg(x q r:Nat)(h:r<32):dg x q/2^r%2=bitN x (32*q+r):=by
 unfold bitN dg pq;rw[show (4294967296:Nat)=2^32 from rfl,←Nat.shiftRight_eq_div_pow,←Nat.shiftRight_eq_div_pow,←Nat.shiftRight_eq_div_pow]
 have e:∀y,y%2=(y.testBit 0).toNat:=fun y=>by rw[Nat.testBit_zero];rcases Nat.mod_two_eq_zero_or_one y with h|h <;> simp[h]
 rw[e,e,Nat.testBit_shiftRight,Nat.testBit_mod_two_pow,Nat.testBit_shiftRight,Nat.testBit_shiftRight];simp[h]
theorem rbit_conv(x q r:Nat)(h:r<32):bits BinOp.and IntKind.u64 (((dg x q:Nat):Int)/2^r) 1=((bitN x (32*q+r):Nat):Int):=by
 have h1:=dg_lt x q;have h2:dg x q/2^r≤dg x q:=Nat.div_le_self _ _;rw[int_pow,←Int.natCast_ediv,←bit_dg x q r h];generalize dg x q/2^r=y at *;rw[and_one_u64 _ (by omega) (by omega)]
 omega
theorem rbit_any(x n i:Nat)(p:Option Addr)(w:World)(hp:Sl w p x)(hi:i≤1000000):
 Calls prog 41 #[.slice p (dl x) n,.int .i64 (i:Int)] w fun e w'=>e=.returned (.int .i64 (bitN x i))∧w'=w:=by
 obtain⟨q,r,hqr,hr⟩:∃q r,i=32*q+r∧r<32:=⟨i/32,i%32,by omega,by omega⟩;have CD:=digit_any w p x n q hp;obtain⟨K,hK⟩:∃K:Int,K=(i:Int):=⟨_,rfl⟩;rw[←hK];obtain⟨B,hB⟩:∃B:Nat,bitN x i=B:=⟨_,rfl⟩;have hb:=rbit_conv x q r hr;rw[←hqr]at hb;rw[hB]at hb ⊢
 have k0:0≤K:=by omega
 have q1:K/32=(q:Int):=by omega
 have q2:K%32=(r:Int):=by omega
 have qb:(q:Int)≤50000:=by omega
 have b1:(B:Int)<2:=by have:=bitN_lt x i;omega
 have HD:Hu (_):=fun _=>CD;obtain⟨L,hL⟩:=exl (dl x);rw[hL]at HD ⊢;clear CD hK hB hqr hr hp hL hi
 go_enter func41,ntmps41
 go_wp2_with (go_at_call 42;refine(HD.out ()).mono ?_;rintro e w' ⟨rfl,rfl⟩)
 go_ret
 exact⟨rfl,rfl⟩
end
end
end Go.Proofs.YtghidgcekieljaaGreat