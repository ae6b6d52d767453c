import Derived.Laws.IdiomStrings
import Derived.Deep.AppendSrc
import Derived.OwnWalk
import Derived.Test.YtonbpnbhjghfbaaXAZB
import Derived.Test.YtonbpnbhjghfbaaXAMixG
namespace Go.Proofs.Ytonbpnbhjghfbaa
open Go.RowKit Go.Proofs.Try
set_option maxRecDepth 100000
set_option maxHeartbeats 8000000
section
def cvT(x:Value):Sem Value:=convert 52 9 x
theorem cvT_is(x:Value):convert 52 9 x=cvT x:=rfl
theorem nums_tx(l:List UInt8):strOfNums (l.map fun b=>(b.toNat:Int))=⟨l.toArray⟩:=by
 unfold strOfNums;rw[List.map_map]
 congr 2
 refine(List.map_congr_left fun b _=>?_).trans (List.map_id l);simp
def bsB(n:Nat)(p:Array (Nat×Value)):Sem Value:=Instr.buildSlice 52 n p
theorem bsB_is(n:Nat)(p:Array (Nat×Value)):Instr.buildSlice 52 n p=bsB n p:=rfl
theorem bsB2(a b:Int)(w:World):(bsB 2 #[(0,.int .u8 a),(1,.int .u8 b)]).run prog w=.ok (.slice (some ⟨w.heap.size,0,none⟩) 2 2) (w.alloc (.cells #[.int .u8 a,.int .u8 b] 5)):=by kernel_rfl
theorem cvT_blk(l:List UInt8)(v:World)(b:Nat)(h:blk v b=(l.map fun c=>Value.int .u8 (c.toNat:Int)).toArray):(cvT (.slice (some ⟨b,0,none⟩) l.length l.length)).run prog v=.ok (.string ⟨l.toArray⟩) v:=by
 rw[←nums_tx];refine run_convert_bytes_arg v 52 5 underlying52 underlying5 b 0 l.length l.length _ (by simp) (fun i d=>?_) 9 underlying9;rw[Nat.zero_add,cell_blk,h];simp[d]
end
end Go.Proofs.Ytonbpnbhjghfbaa