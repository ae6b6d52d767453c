import Derived.Laws.Bits64b
import Derived.Test.YtdomjicpdbblnaaXANum
namespace Go.Proofs.Ytdomjicpdbblnaa
open Go.RowKit
set_option maxRecDepth 100000
set_option maxHeartbeats 8000000
section
theorem pow64(p:Nat)(h:p≤64):2^(64-p)*2^p=18446744073709551616:=by
 rw[←Nat.pow_add,show 64-p+p=64 from by omega]
theorem int_pow(p:Nat):(2:Int)^p=((2^p:Nat):Int):=by simp
theorem or_add(x d p:Nat)(hd:d<2^p):x*2^p|||d=x*2^p+d:=by
 rw[←Nat.shiftLeft_eq,Nat.shiftLeft_add_eq_or_of_lt hd]
theorem shl_mod(x p:Nat)(hp:p≤64):x*2^p%18446744073709551616=(x%2^(64-p))*2^p:=by
 rw[←pow64 p hp,Nat.mul_mod_mul_right]
end
section
def bn(l:List UInt8):Nat:=l.foldl (fun n b=>n*256+b.toNat) 0
theorem bn_snoc(l:List UInt8)(b:UInt8):bn (l++[b])=bn l*256+b.toNat:=by simp[bn]
theorem take_snoc(s:ByteArray)(k:Nat)(h:k<s.size):s.data.toList.take (k+1)=s.data.toList.take k++[s[k]]:=by
 rw[List.take_succ_eq_append_getElem (by simpa using h)];rfl
theorem byte_step(X P b:Nat):(X*256+b)*2^(8*P)=X*2^(8*(P+1))+b*2^(8*P):=by
 grind
theorem byte_place(b q r:Nat):b*2^(8*(8*q+r))=b*2^(8*r)*pw q:=by
 unfold pw
 grind
theorem byte_wd(X q r:Nat)(hr:r<8):wd (X*2^(8*(8*q+r+1))) q=(X%2^(64-8*(r+1)))*2^(8*(r+1)):=by
 unfold wd pw;rw[show 8*(8*q+r+1)=8*(r+1)+64*q from by omega,Nat.pow_add,←Nat.mul_assoc,Nat.mul_div_cancel _ (Nat.two_pow_pos _)]
 grind [shl_mod]
theorem byte_lt(b r:Nat)(hb:b<256):b*2^(8*r)<2^(8*(r+1)):=by
 rw[show 8*(r+1)=8+8*r from by omega,Nat.pow_add];exact Nat.mul_lt_mul_of_pos_right hb (Nat.two_pow_pos _)
theorem byte_le(r:Nat)(hr:r<8):2^(8*(r+1))≤18446744073709551616:=by
 have:=Nat.pow_le_pow_right (n:=2) (by decide) (show 8*(r+1)≤64 by omega);exact this
theorem byte_or(X q r b:Nat)(hr:r<8)(hb:b<256):
 bits BinOp.or IntKind.u64 ((wd (X*2^(8*(8*q+r+1))) q:Nat):Int) (IntKind.u64.wrap ((b:Int)*2^(8*r)))=((wd (X*2^(8*(8*q+r+1))) q+b*2^(8*r):Nat):Int):=by
 have d:=byte_lt b r hb;have h:=byte_le r hr;have f:=wd_lt (X*2^(8*(8*q+r+1))) q
 have e:IntKind.u64.wrap ((b:Int)*2^(8*r))=((b*2^(8*r):Nat):Int):=by
  rw[IntKind.wrap_u64,int_pow,←Int.natCast_mul];generalize b*2^(8*r)=y at *
  omega
 rw[e,bits_or_u64_nat _ _ f (by omega),byte_wd X q r hr,or_add _ _ _ d]
theorem byte_word_lt(X q r b:Nat)(hr:r<8)(hb:b<256):wd (X*2^(8*(8*q+r+1))) q+b*2^(8*r)<18446744073709551616:=by
 have h:=byte_lt b r hb;rw[byte_wd X q r hr,←pow64 (8*(r+1)) (by omega)];have d:=Nat.mod_lt X (Nat.two_pow_pos (64-8*(r+1)));have f:(X%2^(64-8*(r+1))+1)*2^(8*(r+1))≤2^(64-8*(r+1))*2^(8*(r+1)):=Nat.mul_le_mul_right _ d;rw[Nat.add_mul]at f
 omega
theorem byte_set(X q r b:Nat)(hr:r<8)(hb:b<256):
 (nw 9 (X*2^(8*(8*q+r+1)))).setIfInBounds q (Value.int .u64 ((wd (X*2^(8*(8*q+r+1))) q+b*2^(8*r):Nat):Int))=nw 9 ((X*256+b)*2^(8*(8*q+r))):=by
 rw[nw_set 9 _ q _ (byte_word_lt X q r b hr hb),byte_step,byte_place];have d:=parts (X*2^(8*(8*q+r+1))) q;generalize X*2^(8*(8*q+r+1))=V at *;refine congrArg (nw 9) ?_;rw[Nat.add_mul];generalize V/pw (q+1)*pw (q+1)=z at *;generalize b*2^(8*r)*pw q=y at *;generalize wd V q*pw q=t at *
 omega
end
end Go.Proofs.Ytdomjicpdbblnaa