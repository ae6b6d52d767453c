import Derived.Test.YtffhepbppiocbadGreatXAAT
namespace Go.Proofs.YtffhepbppiocbadGreat
open Go.RowKit Go.Proofs.Tryz
set_option maxRecDepth 100000
set_option maxHeartbeats 8000000
section
theorem wrap_u32(x:Int)(h0:0≤x)(h1:x<4294967296):IntKind.u32.wrap x=x:=by
 simp only[IntKind.wrap,IntKind.signed,IntKind.bits];simp
 omega
theorem dl_small{n:Nat}(h0:0<n)(h1:n<4294967296):dl n=1:=by
 have a:=(dl_le n 1).2 (by rw[show pq 1=4294967296 by decide +kernel];exact h1)
 have b:¬dl n≤0:=fun h=>by have:=(dl_le n 0).1 h;rw[show pq 0=1 by decide +kernel]at this;omega
 omega
theorem bslU_is(n:Nat)(p:Array (Nat×Value)):Instr.buildSlice 27 n p=bslS 27 n p:=rfl
theorem buildU'(x:Nat)(w:World):(bslS 27 1 #[(0,.int .u32 x)]).run prog w=.ok (.slice (some ⟨w.heap.size,0,none⟩) 1 1) (w.alloc (.cells #[.int .u32 x] 36)):=by
 kernel_rfl
theorem buildU(x:Nat)(hx:x<4294967296)(w:World):(bslS 27 1 #[(0,.int .u32 x)]).run prog w=.ok (.slice (some ⟨w.heap.size,0,none⟩) 1 1) (w.alloc (.cells (nd 1 x) 36)):=by
 rw[buildU' x w,nd_one x hx]
end
end Go.Proofs.YtffhepbppiocbadGreat