import Derived.Shelf.Bits.Mul64
import Derived.Lib.BitFns
import Derived.Lib.Strings
import Derived.Lib.Walk
import Derived.Lib.Slices
import Derived.Lib.Small
import Derived.Test.YtffhepbppiocbadGreatXABits
namespace Go.Proofs.YtffhepbppiocbadGreat
open Go.RowKit Go.Proofs.Tryz
set_option maxRecDepth 100000
set_option maxHeartbeats 8000000
section
theorem mul64(x y:Nat)(hx:x<18446744073709551616)(hy:y<18446744073709551616)(w:World):
 Calls prog 176 #[.int .u64 x,.int .u64 y] w fun e w'=>e=.returned (.tuple #[.int .u64 ((x*y/18446744073709551616:Nat):Int),.int .u64 ((x*y%18446744073709551616:Nat):Int)])∧w'=w:=by
 obtain⟨h,f,i,d⟩:=Lib.mul64_hi x y hx hy;have D:=Lib.half_mul_le (a:=x/4294967296) (b:=y/4294967296) (by omega) (by omega)
 have j:x/4294967296*(y/4294967296)<18446744073709551616:=by omega
 have q:x/4294967296*(y%4294967296)<18446744073709551616:=by omega
 have A:x%4294967296*(y/4294967296)<18446744073709551616:=by omega
 have B:x/4294967296*(y/4294967296)+(x/4294967296*(y%4294967296)+x%4294967296*(y%4294967296)/4294967296)/4294967296<18446744073709551616:=by omega
 have C:x/4294967296*(y/4294967296)+(x/4294967296*(y%4294967296)+x%4294967296*(y%4294967296)/4294967296)/4294967296+((x/4294967296*(y%4294967296)+x%4294967296*(y%4294967296)/4294967296)%4294967296+x%4294967296*(y/4294967296))/4294967296<18446744073709551616:=by omega
 go_enter func176,ntmps176
 go_wp2
 simp only[Mul64.maskN x hx,Mul64.maskN y hy,Mul64.divN,Mul64.mulN,Mul64.addN,Mul64.wrapN _ h,Mul64.wrapN _ q,Mul64.wrapN _ f,Mul64.maskN _ f,Mul64.wrapN _ A,Mul64.wrapN _ i,Mul64.wrapN _ j,Mul64.wrapN _ B,Mul64.wrapN _ C,Mul64.wrapM (x*y)];rw[d]
 go_ret2
 exact⟨rfl,rfl⟩
theorem tab(n:Nat)(h:n<Lib.len8tab.size):(Lib.len8tab[n].toNat:Int)=(Lib.bitLen n:Int)∧Lib.bitLen n≤8:=by
 have d:n<256:=by have:=Lib.len8tab_size;omega
 have e:=Lib.len8_eq ⟨n,d⟩;have l:=Lib.bitLen_le8 ⟨n,d⟩;have t:=Int.toNat_natCast n;simp only[Lib.len8,t,getElem?_pos,h,Option.getD_some]at e l;exact⟨e,l⟩
theorem tab_at(x K:Int)(n:Nat)(h:n<Lib.len8tab.size)(hx:((Lib.bitLen x.toNat:Nat):Int)=K+(Lib.bitLen n:Nat))(h0:0≤K)(h1:K≤64):
 wrap64 (K+wrap64 (Lib.len8tab[n].toNat:Int))=((Lib.bitLen x.toNat:Nat):Int):=by
 obtain⟨e,l⟩:=tab n h;rw[e,hx];unfold wrap64
 omega
theorem tab_at0(x:Int)(h:x.toNat<Lib.len8tab.size):wrap64 (wrap64 (Lib.len8tab[x.toNat].toNat:Int))=((Lib.bitLen x.toNat:Nat):Int):=by
 obtain⟨e,l⟩:=tab x.toNat h;rw[e];unfold wrap64
 omega
theorem len64(x:Int)(w:World)(h0:0≤x)(h1:x≤18446744073709551615):
 Calls prog 95 #[.int .u64 x] w fun e w'=>e=.returned (.int .i64 (Lib.bitLen x.toNat))∧w'=w:=by
 have d:=Lib.len8tab_size
 go_enter func95,ntmps95
 go_wp2
 all_goals (go_ret;refine⟨congrArg Ending.returned (congrArg (Value.int IntKind.i64) ?_),rfl⟩)
 ·have e:(x/4294967296/65536/256).toNat=x.toNat/72057594037927936:=by omega
  have t:=Lib.bitLen_shift56 x.toNat (by omega) (by omega);exact tab_at x 56 _ _ (by rw[e];omega) (by decide) (by decide)
 ·have e:(x/4294967296/65536).toNat=x.toNat/281474976710656:=by omega
  have t:=Lib.bitLen_shift48 x.toNat (by omega) (by omega);exact tab_at x 48 _ _ (by rw[e];omega) (by decide) (by decide)
 ·have e:(x/4294967296/256).toNat=x.toNat/1099511627776:=by omega
  have t:=Lib.bitLen_shift40 x.toNat (by omega) (by omega);exact tab_at x 40 _ _ (by rw[e];omega) (by decide) (by decide)
 ·have e:(x/4294967296).toNat=x.toNat/4294967296:=by omega
  have t:=Lib.bitLen_shift32 x.toNat (by omega) (by omega);exact tab_at x 32 _ _ (by rw[e];omega) (by decide) (by decide)
 ·have e:(x/65536/256).toNat=x.toNat/16777216:=by omega
  have t:=Lib.bitLen_shift24 x.toNat (by omega) (by omega);exact tab_at x 24 _ _ (by rw[e];omega) (by decide) (by decide)
 ·have e:(x/65536).toNat=x.toNat/65536:=by omega
  have t:=Lib.bitLen_shift16 x.toNat (by omega) (by omega);exact tab_at x 16 _ _ (by rw[e];omega) (by decide) (by decide)
 ·have e:(x/256).toNat=x.toNat/256:=by omega
  have t:=Lib.bitLen_shift8 x.toNat (by omega) (by omega);exact tab_at x 8 _ _ (by rw[e];omega) (by decide) (by decide)
 ·exact tab_at0 x _
theorem add64_0(x y:Int)(hx:0≤x)(hy:0≤y)(w:World):(callFunc 168 #[.int .u64 x,.int .u64 y,.int .u64 0]).run prog w =
 .ok (.value (.tuple #[.int .u64 ((x+y)%18446744073709551616),.int .u64 ((x+y)/18446744073709551616)])) w:=by
 grind [add64]
theorem ret_two{j k:IntKind}{a a' b b':Int}(h1:a=a')(h2:b=b'):Ending.returned (.tuple #[.int j a,.int k b])=.returned (.tuple #[.int j a',.int k b']):=by rw[h1,h2]
theorem mulAdd_val(x y c d:Nat)(hx:x<18446744073709551616)(hy:y<18446744073709551616)(hc:c<18446744073709551616)(hd:d<18446744073709551616):
 x*y+c+d<340282366920938463463374607431768211456:=by
 have:x*y≤18446744073709551615*18446744073709551615:=Nat.mul_le_mul (by omega) (by omega)
 omega
theorem mulAdd_lo(p l h c d:Nat)(hp:p=h*18446744073709551616+l):
 ((l:Int)+c+d)%18446744073709551616=(((p+c+d)%18446744073709551616:Nat):Int):=by omega
theorem mulAdd_hi(p l h c d:Nat)(hp:p=h*18446744073709551616+l)(hm:p+c+d<340282366920938463463374607431768211456):
 IntKind.u64.wrap (IntKind.u64.wrap ((h:Int)+((l:Int)+c)/18446744073709551616)+(((l:Int)+c)%18446744073709551616+d)/18446744073709551616)=(((p+c+d)/18446744073709551616:Nat):Int):=by
 rw[IntKind.wrap_u64,IntKind.wrap_u64];omega
theorem mulAdd_any(x y c d:Nat)(hx:x<18446744073709551616)(hy:y<18446744073709551616)(hc:c<18446744073709551616)(hd:d<18446744073709551616)(w:World):
 Calls prog 170 #[.int .u64 x,.int .u64 y,.int .u64 c,.int .u64 d] w fun e w'=>e=.returned (.tuple #[.int .u64 (((x*y+c+d)%18446744073709551616:Nat):Int),.int .u64 (((x*y+c+d)/18446744073709551616:Nat):Int)])∧w'=w:=by
 have j:=mulAdd_val x y c d hx hy hc hd;obtain⟨h,l,q,A,B,D⟩:∃h l:Nat,x*y%18446744073709551616=l∧x*y/18446744073709551616=h∧x*y=h*18446744073709551616+l∧l<18446744073709551616:=⟨_,_,rfl,rfl,by omega,by omega⟩;have f:=fun w=>mul64 x y hx hy w;rw[q,A]at f;have i:Hid _:=f;have G:Hid _:=j;have C:Hid _:=B;clear f q A B j hx hy hc hd D
 have H:(0:Int)≤l:=by omega
 have I:(0:Int)≤c:=by omega
 have J:(0:Int)≤((l:Int)+c)%18446744073709551616:=by omega
 have K:(0:Int)≤d:=by omega
 go_enter func170,ntmps170
 go_wp2_with (first|(go_at_call 176;refine(i.out _).mono ?_;rintro e w' ⟨rfl,rfl⟩)|simp only[add64_0 (l:Int) (c:Int) H I] | simp only[add64_0 _ (d:Int) J K])
 go_ret2
 exact⟨ret_two (mulAdd_lo (x*y) l h c d C.out) (mulAdd_hi (x*y) l h c d C.out G.out),rfl⟩
end
end Go.Proofs.YtffhepbppiocbadGreat