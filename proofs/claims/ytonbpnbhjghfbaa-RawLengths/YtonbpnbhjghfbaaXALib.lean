import Derived.Shelf.Bits.Mul64
import Derived.Lib.BitFns
import Derived.Lib.Strings
import Derived.Lib.Walk
import Derived.Lib.Slices
import Derived.Lib.Small
import Derived.Test.YtonbpnbhjghfbaaXABits
namespace Go.Proofs.Ytonbpnbhjghfbaa
open Go.RowKit Go.Proofs.Try
set_option maxRecDepth 100000
set_option maxHeartbeats 8000000
section
theorem tab(n:Nat)(h:n<Lib.len8tab.size):(Lib.len8tab[n].toNat:Int)=(Lib.bitLen n:Int)∧Lib.bitLen n≤8:=by
 have d:n<256:=by have:=Lib.len8tab_size;omega
 have e:=Lib.len8_eq ⟨n,d⟩;have l:=Lib.bitLen_le8 ⟨n,d⟩;have t:=Int.toNat_natCast n;simp only[Lib.len8,t,getElem?_pos,h,Option.getD_some]at e l;exact⟨e,l⟩
theorem tab_at(x K:Int)(n:Nat)(h:n<Lib.len8tab.size)(hx:((Lib.bitLen x.toNat:Nat):Int)=K+(Lib.bitLen n:Nat))(h0:0≤K)(h1:K≤64):
 wrap64 (K+wrap64 (Lib.len8tab[n].toNat:Int))=((Lib.bitLen x.toNat:Nat):Int):=by
 obtain⟨e,l⟩:=tab n h;rw[e,hx];unfold wrap64
 omega
theorem tab_at0(x:Int)(h:x.toNat<Lib.len8tab.size):wrap64 (wrap64 (Lib.len8tab[x.toNat].toNat:Int))=((Lib.bitLen x.toNat:Nat):Int):=by
 obtain⟨e,l⟩:=tab x.toNat h;rw[e];unfold wrap64
 omega
theorem len64(x:Int)(w:World)(h0:0≤x)(h1:x≤18446744073709551615):
 Calls prog 61 #[.int .u64 x] w fun e w'=>e=.returned (.int .i64 (Lib.bitLen x.toNat))∧w'=w:=by
 have d:=Lib.len8tab_size
 go_enter func61,ntmps61
 go_wp2
 all_goals (go_ret;refine⟨congrArg Ending.returned (congrArg (Value.int IntKind.i64) ?_),rfl⟩)
 ·have e:(x/4294967296/65536/256).toNat=x.toNat/72057594037927936:=by omega
  have t:=Lib.bitLen_shift56 x.toNat (by omega) (by omega);exact tab_at x 56 _ _ (by rw[e];omega) (by decide) (by decide)
 ·have e:(x/4294967296/65536).toNat=x.toNat/281474976710656:=by omega
  have t:=Lib.bitLen_shift48 x.toNat (by omega) (by omega);exact tab_at x 48 _ _ (by rw[e];omega) (by decide) (by decide)
 ·have e:(x/4294967296/256).toNat=x.toNat/1099511627776:=by omega
  have t:=Lib.bitLen_shift40 x.toNat (by omega) (by omega);exact tab_at x 40 _ _ (by rw[e];omega) (by decide) (by decide)
 ·have e:(x/4294967296).toNat=x.toNat/4294967296:=by omega
  have t:=Lib.bitLen_shift32 x.toNat (by omega) (by omega);exact tab_at x 32 _ _ (by rw[e];omega) (by decide) (by decide)
 ·have e:(x/65536/256).toNat=x.toNat/16777216:=by omega
  have t:=Lib.bitLen_shift24 x.toNat (by omega) (by omega);exact tab_at x 24 _ _ (by rw[e];omega) (by decide) (by decide)
 ·have e:(x/65536).toNat=x.toNat/65536:=by omega
  have t:=Lib.bitLen_shift16 x.toNat (by omega) (by omega);exact tab_at x 16 _ _ (by rw[e];omega) (by decide) (by decide)
 ·have e:(x/256).toNat=x.toNat/256:=by omega
  have t:=Lib.bitLen_shift8 x.toNat (by omega) (by omega);exact tab_at x 8 _ _ (by rw[e];omega) (by decide) (by decide)
 ·exact tab_at0 x _
end
end Go.Proofs.Ytonbpnbhjghfbaa