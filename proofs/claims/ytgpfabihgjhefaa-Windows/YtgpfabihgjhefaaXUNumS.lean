import Derived.Laws.Bits64b
import Derived.Test.YtgpfabihgjhefaaXUVA
namespace Go.Proofs.Ytgpfabihgjhefaa
open Go.RowKit
set_option maxRecDepth 100000
set_option maxHeartbeats 8000000
section
theorem pow64 (p:Nat) (h:p≤64):2 ^ (64-p)*2 ^ p=18446744073709551616:=by
 rw [← Nat.pow_add,show 64-p+p=64 from by omega]
theorem int_pow (p:Nat):(2:Int) ^ p=((2 ^ p:Nat):Int):=by simp
theorem or_add (x d p:Nat) (hd:d<2 ^ p):x*2 ^ p ||| d=x*2 ^ p+d:=by
 rw [← Nat.shiftLeft_eq,Nat.shiftLeft_add_eq_or_of_lt hd]
theorem shl_mod (x p:Nat) (hp:p≤64):x*2 ^ p%18446744073709551616=(x%2 ^ (64-p))*2 ^ p:=by
 rw [← pow64 p hp,Nat.mul_mod_mul_right]
theorem shl_div (x p:Nat) (hp:p≤64):x*2 ^ p/18446744073709551616=x/2 ^ (64-p):=by
 rw [← pow64 p hp,Nat.mul_div_mul_right _ _ (Nat.two_pow_pos p)]
theorem shl_lt (x d p:Nat) (hp:p≤64) (hd:d<2 ^ p):x*2 ^ p%18446744073709551616+d<18446744073709551616:=by
 rw [shl_mod x p hp]
 have h1:=Nat.mod_lt x (Nat.two_pow_pos (64-p))
 have h2:=pow64 p hp
 have h3:(x%2 ^ (64-p)+1)*2 ^ p≤2 ^ (64-p)*2 ^ p:=Nat.mul_le_mul_right _ h1
 rw [Nat.add_mul] at h3
 omega
theorem pow_lt64 (p:Nat) (hp:p<64):2 ^ p<18446744073709551616:=by
 have:=Nat.pow_lt_pow_right (a:=2) (by decide) hp
 exact this
theorem shl_word (x d p:Nat) (hp:p<64) (hd:d<2 ^ p):
 bits BinOp.or IntKind.u64 (IntKind.u64.wrap ((x:Int)*2 ^ p)) (d:Int)=((x*2 ^ p%18446744073709551616+d:Nat):Int):=by
 have e:IntKind.u64.wrap ((x:Int)*2 ^ p)=((x*2 ^ p%18446744073709551616:Nat):Int):=by
  rw [IntKind.wrap_u64,int_pow,← Int.natCast_mul]; omega
 have h1:=pow_lt64 p hp
 rw [e,bits_or_u64_nat _ _ (Nat.mod_lt _ (by decide)) (by omega),shl_mod x p (by omega),or_add _ _ _ hd]
theorem shl_carry (x p:Nat) (hp:p<64):(x:Int)/2 ^ (64-p)=((x*2 ^ p/18446744073709551616:Nat):Int):=by
 rw [shl_div x p (by omega),int_pow,← Int.natCast_ediv]
theorem shl_carry_lt (x p:Nat) (hx:x<18446744073709551616):x*2 ^ p/18446744073709551616<2 ^ p:=by
 rw [Nat.div_lt_iff_lt_mul (by decide),Nat.mul_comm]
 exact Nat.mul_lt_mul_of_pos_left hx (Nat.two_pow_pos p)
theorem shl_step (a s p j U d:Nat) (h:U+d*pw (s+j)=(a%pw j)*(pw s*2 ^ p)):
 U+(wd a j*2 ^ p%18446744073709551616+d)*pw (s+j)+wd a j*2 ^ p/18446744073709551616*pw (s+(j+1))=(a%pw (j+1))*(pw s*2 ^ p):=by
 have hd:=Nat.div_add_mod (wd a j*2 ^ p) 18446744073709551616
 rw [mod_succ,Nat.add_mul (a%pw j),← h]
 have e1:wd a j*pw j*(pw s*2 ^ p)=wd a j*2 ^ p*pw (s+j):=by
  rw [pw_add,Nat.mul_assoc,Nat.mul_assoc,← Nat.mul_assoc (pw j),Nat.mul_comm (pw j*pw s),Nat.mul_comm (pw j)]
 rw [e1,show s+(j+1)=s+j+1 from rfl,pow_succ64]
 generalize wd a j*2 ^ p=m at *
 generalize m/18446744073709551616=q at *
 generalize m%18446744073709551616=r at *
 generalize pw (s+j)=P at *
 have e2:(18446744073709551616*q+r)*P=m*P:=by rw [hd]
 rw [Nat.add_mul] at e2
 have e3:q*(P*18446744073709551616)=18446744073709551616*q*P:=by
  rw [Nat.mul_comm P,← Nat.mul_assoc,Nat.mul_comm q]
 rw [e3,Nat.add_mul]
 omega
theorem shl_next_lt (U x n:Nat) (hU:U<pw n) (hx:x<18446744073709551616):U+x*pw n<pw (n+1):=by
 rw [pow_succ64]
 have:x*pw n≤18446744073709551615*pw n:=Nat.mul_le_mul_right _ (by omega)
 omega
theorem shl_end (a s p j U d:Nat) (hsj:s+j=9) (hU:U<pw (s+j)) (h:U+d*pw (s+j)=(a%pw j)*(pw s*2 ^ p)):a*2 ^ (64*s+p)%M=U:=by
 have hM:pw (s+j)=M:=by rw [hsj]; rfl
 have hd:=Nat.div_add_mod a (pw j)
 have e:a*2 ^ (64*s+p)=U+(d+a/pw j*2 ^ p)*M:=by
  rw [Nat.pow_add,show 2 ^ (64*s)=pw s from rfl]
  have e1:a*(pw s*2 ^ p)=(pw j*(a/pw j)+a%pw j)*(pw s*2 ^ p):=by rw [hd]
  rw [e1,Nat.add_mul,← h,Nat.add_mul,hM,← hM,pw_add]
  have e2:pw j*(a/pw j)*(pw s*2 ^ p)=a/pw j*2 ^ p*(pw s*pw j):=by
   rw [Nat.mul_comm (pw j),Nat.mul_assoc,Nat.mul_assoc,← Nat.mul_assoc (pw j),Nat.mul_comm (pw j*pw s),Nat.mul_comm (pw j)]
  rw [e2]
  omega
 rw [e,Nat.add_mul_mod_self_right,Nat.mod_eq_of_lt (by rw [← hM]; exact hU)]
theorem shr_word (x A p:Nat) (hx:x<18446744073709551616) (hp:p<64):
 bits BinOp.or IntKind.u64 ((x:Int)/2 ^ p) (((A%2 ^ p)*2 ^ (64-p):Nat):Int)=((x/2 ^ p+(A%2 ^ p)*2 ^ (64-p):Nat):Int):=by
 have h1:=Nat.mod_lt A (Nat.two_pow_pos p)
 have h2:=pow64 p (by omega)
 have h3:(A%2 ^ p+1)*2 ^ (64-p)≤2 ^ p*2 ^ (64-p):=Nat.mul_le_mul_right _ h1
 rw [Nat.add_mul,Nat.mul_comm (2 ^ p),h2] at h3
 have h4:=Nat.two_pow_pos (64-p)
 have h5:x/2 ^ p<2 ^ (64-p):=by rw [Nat.div_lt_iff_lt_mul (Nat.two_pow_pos p),h2]; exact hx
 have h6:x/2 ^ p≤x:=Nat.div_le_self _ _
 rw [int_pow,← Int.natCast_ediv,bits_or_u64_nat _ _ (by omega) (by omega),Nat.or_comm,or_add _ _ _ h5,Nat.add_comm]
theorem shr_carry (x p:Nat) (hp:p<64):IntKind.u64.wrap ((x:Int)*2 ^ (64-p))=(((x%2 ^ p)*2 ^ (64-p):Nat):Int):=by
 have e:=shl_mod x (64-p) (by omega)
 rw [show 64-(64-p)=p from by omega] at e
 rw [← e,IntKind.wrap_u64,int_pow,← Int.natCast_mul]
 omega
theorem shr_word_lt (x A p:Nat) (hx:x<18446744073709551616) (hp:p<64):x/2 ^ p+(A%2 ^ p)*2 ^ (64-p)<18446744073709551616:=by
 have h1:=Nat.mod_lt A (Nat.two_pow_pos p)
 have h2:=pow64 p (by omega)
 have h3:(A%2 ^ p+1)*2 ^ (64-p)≤2 ^ p*2 ^ (64-p):=Nat.mul_le_mul_right _ h1
 rw [Nat.add_mul,Nat.mul_comm (2 ^ p),h2] at h3
 have h5:x/2 ^ p<2 ^ (64-p):=by rw [Nat.div_lt_iff_lt_mul (Nat.two_pow_pos p),h2]; exact hx
 omega
theorem shr_div (A x p:Nat) (hp:p<64):(A*18446744073709551616+x)/2 ^ p=A/2 ^ p*18446744073709551616+(x/2 ^ p+(A%2 ^ p)*2 ^ (64-p)):=by
 have h2:=pow64 p (by omega)
 have h3:=Nat.div_add_mod A (2 ^ p)
 have e:A*18446744073709551616+x=x+A*2 ^ (64-p)*2 ^ p:=by rw [Nat.mul_assoc,h2]; omega
 rw [e,Nat.add_mul_div_right _ _ (Nat.two_pow_pos p)]
 have e2:A*2 ^ (64-p)=A/2 ^ p*18446744073709551616+(A%2 ^ p)*2 ^ (64-p):=by
  rw [← h2,Nat.mul_comm (2 ^ (64-p)),← Nat.mul_assoc,← Nat.add_mul,Nat.mul_comm (A/2 ^ p),h3]
 rw [e2]
 omega
theorem shr_mod (A x p:Nat) (hp:p<64):(A*18446744073709551616+x)%2 ^ p=x%2 ^ p:=by
 have h2:=pow64 p (by omega)
 rw [← h2,← Nat.mul_assoc,Nat.add_comm,Nat.add_mul_mod_self_right]
theorem div_step' (a j:Nat):a/pw j=a/pw (j+1)*18446744073709551616+wd a j:=by
 have h:=Nat.div_add_mod (a/pw j) 18446744073709551616
 rw [pow_succ64,← Nat.div_div_eq_div_mul,wd]
 omega
theorem shr_step (a p n m:Nat) (hp:p<64):
 a/pw (n+1)/2 ^ p*pw (m+1)+(wd a n/2 ^ p+(a/pw (n+1)%2 ^ p)*2 ^ (64-p))*pw m=a/pw n/2 ^ p*pw m:=by
 rw [div_step' a n,shr_div _ _ p hp,pow_succ64 m]
 generalize wd a n/2 ^ p+(a/pw (n+1)%2 ^ p)*2 ^ (64-p)=t
 generalize a/pw (n+1)/2 ^ p=H
 rw [Nat.add_mul,Nat.mul_comm (pw m),Nat.mul_assoc]
theorem nw_set_low (N H m x:Nat) (hx:x<18446744073709551616):(nw N (H*pw (m+1))).setIfInBounds m (Value.int .u64 (x:Int))=nw N (H*pw (m+1)+x*pw m):=by
 have e1:H*pw (m+1)%pw m=0:=by rw [pow_succ64,← Nat.mul_assoc,Nat.mul_right_comm,Nat.mul_mod_left]
 have e2:H*pw (m+1)/pw (m+1)=H:=Nat.mul_div_cancel _ (pw_pos _)
 rw [nw_set N _ m x hx,e1,e2,Nat.zero_add,Nat.add_comm]
end
end Go.Proofs.Ytgpfabihgjhefaa