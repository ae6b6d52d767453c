import Derived.Test.YtonbpnbhjghfbaaXABsB
import Derived.Test.YtonbpnbhjghfbaaXAAdd
namespace Go.Proofs.Ytonbpnbhjghfbaa
open Go.RowKit Go.Proofs.Try
set_option maxRecDepth 100000
set_option maxHeartbeats 8000000
section
attribute [local go_sem ↓] uz1
attribute [local go_sem] uz2
section
theorem slT_lo(s:ByteArray)(j:Nat)(h:j≤s.size)(w:World):(Instr.slice 9 (.string s) none (some (.int .i64 j)) none).run prog w=.ok (.string (s.extract 0 j)) w:=by
 have d:(0:Int)≤j:=by omega
 have f:(j:Int)≤(s.size:Int):=by omega
 simp[go_sem,d,f]
theorem slT_hi(s:ByteArray)(i:Nat)(h:i≤s.size)(w:World):(Instr.slice 9 (.string s) (some (.int .i64 i)) none none).run prog w=.ok (.string (s.extract i s.size)) w:=by
 have d:(0:Int)≤i:=by omega
 have f:(i:Int)≤(s.size:Int):=by omega
 simp[go_sem,d,f]
theorem ex_tx(l:List UInt8)(i j:Nat):(⟨l.toArray⟩:ByteArray).extract i j=⟨((l.drop i).take (j-i)).toArray⟩:=by
 apply ByteArray.ext
 rw[ByteArray.data_extract,List.extract_toArray]
theorem app_tx(a b:List UInt8):(⟨a.toArray⟩:ByteArray)++⟨b.toArray⟩=⟨(a++b).toArray⟩:=by
 apply ByteArray.ext
 simp
theorem sz_tx(l:List UInt8):(⟨l.toArray⟩:ByteArray).size=l.length:=by simp[ByteArray.size]
end
end
end Go.Proofs.Ytonbpnbhjghfbaa