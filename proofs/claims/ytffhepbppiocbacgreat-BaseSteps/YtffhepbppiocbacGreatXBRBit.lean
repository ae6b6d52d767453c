import Derived.Test.YtffhepbppiocbacGreatXBRSub
import Derived.Test.YtffhepbppiocbacGreatXBLawA
namespace Go.Proofs.YtffhepbppiocbacGreat
open Go.RowKit Go.Proofs.Tryz
set_option maxRecDepth 100000
set_option maxHeartbeats 8000000
section
attribute [local go_sem ↓] uz1
attribute [local go_sem] uz2
section
theorem bit_dg(x q r:Nat)(h:r<32):dg x q/2^r%2=bitN x (32*q+r):=by
 unfold bitN dg pq;rw[show (4294967296:Nat)=2^32 from rfl,←Nat.shiftRight_eq_div_pow,←Nat.shiftRight_eq_div_pow,←Nat.shiftRight_eq_div_pow]
 have e:∀y,y%2=(y.testBit 0).toNat:=fun y=>by rw[Nat.testBit_zero];rcases Nat.mod_two_eq_zero_or_one y with h|h <;> simp[h]
 rw[e,e,Nat.testBit_shiftRight,Nat.testBit_mod_two_pow,Nat.testBit_shiftRight,Nat.testBit_shiftRight];simp[h]
theorem rbit_conv(x q r:Nat)(h:r<32):bits BinOp.and IntKind.u64 (((dg x q:Nat):Int)/2^r) 1=((bitN x (32*q+r):Nat):Int):=by
 have d:=dg_lt x q;have f:dg x q/2^r≤dg x q:=Nat.div_le_self _ _;rw[int_pow,←Int.natCast_ediv,←bit_dg x q r h];generalize dg x q/2^r=y at *;rw[and_one_u64 _ (by omega) (by omega)]
 omega
theorem rbit_any(x n i:Nat)(p:Option Addr)(w:World)(hp:Sl w p x)(hi:i≤1000000):
 Calls prog 51 #[.slice p (dl x) n,.int .i64 i] w fun e w'=>e=.returned (.int .i64 (bitN x i))∧w'=w:=by
 obtain⟨q,r,d,f⟩:∃q r,i=32*q+r∧r<32:=⟨i/32,i%32,by omega,by omega⟩;have h:=digit_any w p x n q hp;obtain⟨K,j⟩:∃K:Int,K=(i:Int):=⟨_,rfl⟩;rw[←j];obtain⟨B,A⟩:∃B:Nat,bitN x i=B:=⟨_,rfl⟩;have C:=rbit_conv x q r f;rw[←d]at C;rw[A]at C ⊢
 have H:0≤K:=by omega
 have I:K/32=(q:Int):=by omega
 have J:K%32=(r:Int):=by omega
 have P:(q:Int)≤50000:=by omega
 have Q:(B:Int)<2:=by have:=bitN_lt x i;omega
 have D:Hu (_):=fun _=>h;obtain⟨L,G⟩:=exl (dl x);rw[G]at D ⊢;clear h j A d f hp G hi
 go_enter func51,ntmps51
 go_wp2_with (go_at_call 66;refine(D.out ()).mono ?_;rintro e w' ⟨rfl,rfl⟩)
 go_ret
 exact⟨rfl,rfl⟩
end
end
end Go.Proofs.YtffhepbppiocbacGreat