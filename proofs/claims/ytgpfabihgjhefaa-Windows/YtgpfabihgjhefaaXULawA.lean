import Derived.Shelf.Bits.Mul64
import Derived.Lib.Strings
import Derived.Lib.Walk
import Derived.Lib.Slices
import Derived.Lib.Small
import Derived.Test.YtgpfabihgjhefaaXUShl
import Derived.Test.YtgpfabihgjhefaaRows
import Derived.Test.YtgpfabihgjhefaaXUDig
namespace Go.Proofs.Ytgpfabihgjhefaa
open Go.RowKit
set_option maxRecDepth 100000
set_option maxHeartbeats 8000000
section
attribute [local go_sem ↓] uz1
attribute [local go_sem] uz2
section
theorem mask_word (x k:Nat) (hx:x<18446744073709551616) (hk:k<64):bits BinOp.and IntKind.u64 (x:Int) (IntKind.u64.wrap (IntKind.u64.wrap (2 ^ k)-1))=((x%2 ^ k:Nat):Int):=by
 have h1:=pow_lt64 k hk
 have h2:=Nat.two_pow_pos k
 have e:IntKind.u64.wrap (IntKind.u64.wrap (2 ^ k)-1)=((2 ^ k-1:Nat):Int):=by
  rw [int_pow,IntKind.wrap_u64,IntKind.wrap_u64]; omega
 rw [e,bits_and_u64_nat _ _ hx (by omega),Nat.and_two_pow_sub_one_eq_mod]
end
end
end Go.Proofs.Ytgpfabihgjhefaa