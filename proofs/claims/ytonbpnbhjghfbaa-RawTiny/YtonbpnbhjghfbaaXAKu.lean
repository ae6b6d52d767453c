import Derived.Laws.Bits64b
import Derived.Test.YtonbpnbhjghfbaaXANum
namespace Go.Proofs.Ytonbpnbhjghfbaa
open Go.RowKit
set_option maxRecDepth 100000
set_option maxHeartbeats 8000000
section
theorem pow64(p:Nat)(h:p≤64):2^(64-p)*2^p=18446744073709551616:=by
 rw[←Nat.pow_add,show 64-p+p=64 from by omega]
theorem int_pow(p:Nat):(2:Int)^p=((2^p:Nat):Int):=by simp
theorem or_add(x d p:Nat)(hd:d<2^p):x*2^p|||d=x*2^p+d:=by
 rw[←Nat.shiftLeft_eq,Nat.shiftLeft_add_eq_or_of_lt hd]
theorem shl_mod(x p:Nat)(hp:p≤64):x*2^p%18446744073709551616=(x%2^(64-p))*2^p:=by
 rw[←pow64 p hp,Nat.mul_mod_mul_right]
end
section
def bn(l:List UInt8):Nat:=l.foldl (fun n b=>n*256+b.toNat) 0
theorem bn_snoc(l:List UInt8)(b:UInt8):bn (l++[b])=bn l*256+b.toNat:=by simp[bn]
theorem take_snoc(s:ByteArray)(k:Nat)(h:k<s.size):s.data.toList.take (k+1)=s.data.toList.take k++[s[k]]:=by
 rw[List.take_succ_eq_append_getElem (by simpa using h)];rfl
theorem byte_step(X P b:Nat):(X*256+b)*2^(8*P)=X*2^(8*(P+1))+b*2^(8*P):=by
 grind
theorem byte_place(b q r:Nat):b*2^(8*(8*q+r))=b*2^(8*r)*pw q:=by
 unfold pw
 grind
theorem byte_wd(X q r:Nat)(hr:r<8):wd (X*2^(8*(8*q+r+1))) q=(X%2^(64-8*(r+1)))*2^(8*(r+1)):=by
 unfold wd pw;rw[show 8*(8*q+r+1)=8*(r+1)+64*q from by omega,Nat.pow_add,←Nat.mul_assoc,Nat.mul_div_cancel _ (Nat.two_pow_pos _)]
 grind [shl_mod]
theorem byte_lt(b r:Nat)(hb:b<256):b*2^(8*r)<2^(8*(r+1)):=by
 rw[show 8*(r+1)=8+8*r from by omega,Nat.pow_add];exact Nat.mul_lt_mul_of_pos_right hb (Nat.two_pow_pos _)
theorem byte_le(r:Nat)(hr:r<8):2^(8*(r+1))≤18446744073709551616:=by
 have:=Nat.pow_le_pow_right (n:=2) (by decide) (show 8*(r+1)≤64 by omega);exact this
theorem byte_or(X q r b:Nat)(hr:r<8)(hb:b<256):
 bits BinOp.or IntKind.u64 ((wd (X*2^(8*(8*q+r+1))) q:Nat):Int) (IntKind.u64.wrap ((b:Int)*2^(8*r)))=((wd (X*2^(8*(8*q+r+1))) q+b*2^(8*r):Nat):Int):=by
 have d:=byte_lt b r hb;have h:=byte_le r hr;have f:=wd_lt (X*2^(8*(8*q+r+1))) q
 have e:IntKind.u64.wrap ((b:Int)*2^(8*r))=((b*2^(8*r):Nat):Int):=by
  rw[IntKind.wrap_u64,int_pow,←Int.natCast_mul];generalize b*2^(8*r)=y at *
  omega
 rw[e,bits_or_u64_nat _ _ f (by omega),byte_wd X q r hr,or_add _ _ _ d]
theorem byte_word_lt(X q r b:Nat)(hr:r<8)(hb:b<256):wd (X*2^(8*(8*q+r+1))) q+b*2^(8*r)<18446744073709551616:=by
 have h:=byte_lt b r hb;rw[byte_wd X q r hr,←pow64 (8*(r+1)) (by omega)];have d:=Nat.mod_lt X (Nat.two_pow_pos (64-8*(r+1)));have f:(X%2^(64-8*(r+1))+1)*2^(8*(r+1))≤2^(64-8*(r+1))*2^(8*(r+1)):=Nat.mul_le_mul_right _ d;rw[Nat.add_mul]at f
 omega
theorem byte_set(X q r b:Nat)(hr:r<8)(hb:b<256):
 (nw 9 (X*2^(8*(8*q+r+1)))).setIfInBounds q (Value.int .u64 ((wd (X*2^(8*(8*q+r+1))) q+b*2^(8*r):Nat):Int))=nw 9 ((X*256+b)*2^(8*(8*q+r))):=by
 rw[nw_set 9 _ q _ (byte_word_lt X q r b hr hb),byte_step,byte_place];have d:=parts (X*2^(8*(8*q+r+1))) q;generalize X*2^(8*(8*q+r+1))=V at *;refine congrArg (nw 9) ?_;rw[Nat.add_mul];generalize V/pw (q+1)*pw (q+1)=z at *;generalize b*2^(8*r)*pw q=y at *;generalize wd V q*pw q=t at *
 omega
end
section
theorem guess_ge(V D P1 Po top:Nat)(hP1:0<P1)(hPo:0<Po)(ht:0<top)(hD:top*P1≤D):V/(D*Po)≤V/(P1*Po)/top:=by
 rw[Nat.le_div_iff_mul_le ht,Nat.le_div_iff_mul_le (Nat.mul_pos hP1 hPo)];have h:=Nat.div_mul_le_self V (D*Po);generalize V/(D*Po)=q at *;have d:q*(top*P1*Po)≤q*(D*Po):=Nat.mul_le_mul_left _ (Nat.mul_le_mul_right _ hD)
 have e:q*top*(P1*Po)=q*(top*P1*Po):=by grind
 rw[e]
 omega
theorem take_ok(V U t Z:Nat)(hU:0<U)(ht:V/U≤t)(h:Z+t*U=V):Z<U:=by
 have d:=Nat.lt_div_mul_add (a:=V) hU;have f:V/U*U≤t*U:=Nat.mul_le_mul_right _ ht
 omega
theorem take_pos(V U R t Z:Nat)(hZ:Z<R)(h:Z+t*U=V+R):0<t:=by
 cases t with
 | zero=>omega
 | succ n=>omega
theorem take_back(V U R t Z Y c:Nat)(ht:0<t)(h:Z+t*U=V+R)(hb:Y+c*R=Z+U):Y+c*R+(t-1)*U=V+R:=by
 obtain⟨n,rfl⟩:∃n,t=n+1:=⟨t-1,by omega⟩;rw[Nat.add_sub_cancel];rw[Nat.add_mul]at h
 omega
theorem split_end(W D u Q V m:Nat)(hD:D=m*u)(hu:0<u)(h:W*u=V+D*Q)(hV:V<D):W/m=Q∧V/u=W%m:=by
 subst hD
 have j:0<m:=by
  cases m with
  | zero=>rw[Nat.zero_mul]at hV;omega
  | succ n=>omega
 have d:W=V/u+m*Q:=by
  have e:V+m*u*Q=V+m*Q*u:=by grind
  rw[e]at h
  have f:W*u/u=(V+m*Q*u)/u:=by rw[h]
  rw[Nat.mul_div_cancel _ hu,Nat.add_mul_div_right _ _ hu]at f;exact f
 have i:V/u<m:=by rw[Nat.div_lt_iff_lt_mul hu];exact hV
 refine⟨?_,?_⟩
 ·rw[d,Nat.add_mul_div_left _ _ j,Nat.div_eq_of_lt i,Nat.zero_add]
 ·rw[d,Nat.add_mul_mod_self_left,Nat.mod_eq_of_lt i]
end
section
def Gs(x v q d r:Nat):Prop:=x=d*v+r∧q≤d
def Gf(x v1 v0 u0 q d:Nat):Prop:=q≤d∧d<4294967296∧d*(v1*4294967296+v0)≤x*4294967296+u0
theorem gs_start(x v q:Nat)(hv:0<v)(h:q*v≤x):Gs x v q (x/v) (x%v):=by
 refine⟨?_,?_⟩
 ·simp[Nat.div_add_mod,Nat.mul_comm]
 ·rw[Nat.le_div_iff_mul_le hv];exact h
theorem gs_dec(x v1 v0 u0 q d r:Nat)(h:Gs x v1 q d r)(hq:q<4294967296)(hX:q*(v1*4294967296+v0)≤x*4294967296+u0)(ht:4294967296≤d∨r*4294967296+u0<d*v0):
 0<d∧Gs x v1 q (d-1) (r+v1):=by
 obtain⟨i,j⟩:=h
 have f:q<d:=by
  rcases ht with ht|ht
  ·omega
  ·grind
 refine⟨by omega,?_,by omega⟩;obtain⟨n,rfl⟩:∃n,d=n+1:=⟨d-1,by omega⟩
 grind
theorem gs_break(x v1 v0 u0 q d r:Nat)(h0:v0<4294967296)(h:Gs x v1 q d r)(hr:4294967296≤r)(hx:x≤v1*4294967296+4294967295):Gf x v1 v0 u0 q d:=by
 obtain⟨f,i⟩:=h
 have j:d<4294967296:=by
  have:d*v1<4294967296*v1:=by omega
  exact Nat.lt_of_mul_lt_mul_right this
 refine⟨i,j,?_⟩;have l:d*v0≤4294967295*4294967295:=Nat.mul_le_mul (by omega) (by omega)
 have e:d*(v1*4294967296+v0)=d*v1*4294967296+d*v0:=by grind
 rw[e,f,Nat.add_mul]
 omega
theorem gs_stop(x v1 v0 u0 q d r:Nat)(h:Gs x v1 q d r)(h1:d<4294967296)(h2:d*v0≤r*4294967296+u0):Gf x v1 v0 u0 q d:=by
 obtain⟨f,i⟩:=h;refine⟨i,h1,?_⟩
 have e:d*(v1*4294967296+v0)=d*v1*4294967296+d*v0:=by grind
 rw[e,f,Nat.add_mul]
 omega
end
section
def euF:Nat→Nat→Nat→Nat→Nat→Bool→Nat×Nat×Bool
 | 0,lv,lf,_,_,β=>(lv,lf,β)
 | n+1,lv,lf,tv,tf,β=>if tv=0 then(lv,lf,β) else euF n tv tf (lv%tv) (lf+lv/tv*tf) (!β)
def eu(lv lf tv tf:Nat)(β:Bool):Nat×Nat×Bool:=euF tv lv lf tv tf β
end
end Go.Proofs.Ytonbpnbhjghfbaa