import Derived.Test.YtghidgcekieljaaGreatXART
namespace Go.Proofs.YtghidgcekieljaaGreat
open Go.RowKit Go.Proofs.Tryz
set_option maxRecDepth 100000
set_option maxHeartbeats 8000000
section
def wlk(k:Nat):Nat→Q3→Bool
 | 0,_=>true
 | n+1,P => !P.2.2&&wlk k n (plQ k P (gQ k))
theorem wlk_is{k:Nat}(h1:1≤k)(h2:k≤15):∀n j,wlk k n (mlQ k j (gQ k))=true→∀i,i<n→(mlQ k (j+i) (gQ k)).2.2=false
 | 0,_,_,_,h=>absurd h (Nat.not_lt_zero _)
 | n+1,j,h,i,hi=>by
  rw[wlk,Bool.and_eq_true]at h
  cases i with
  | zero=>
   rw[Nat.add_zero];exact(Bool.not_eq_true' _).mp h.1
  | succ i=>
   rw[show j+(i+1)=j+1+i by omega];refine wlk_is h1 h2 n (j+1) ?_ i (by omega);rw[mlQ_add h1 h2 j 1 (gQ_on h1 h2),mlQ_one h1 h2 (gQ_on h1 h2)];exact h.2
theorem wlk_T(k:Nat)(h1:13≤k)(h2:k≤15):wlk k (oN k-1) (gQ k)=true:=by
 obtain rfl|rfl|rfl:k=13∨k=14∨k=15:=by omega
 all_goals decide +kernel
theorem walk_ne{k:Nat}(h1:13≤k)(h2:k≤15)(i:Nat)(hi:1≤i)(hn:i<oN k):(mlQ k i (gQ k)).2.2=false:=by
 have h:=wlk_is (by omega) h2 (oN k-1) 1 (by rw[mlQ_one (by omega) h2 (gQ_on (by omega) h2)];exact wlk_T k h1 h2) (i-1) (by omega);rw[show 1+(i-1)=i by omega]at h;exact h
theorem tinyP(k:Nat)(h1:13≤k)(h2:k≤15):pN k≤255∧oN k≤255∧200≤oN k:=by
 obtain rfl|rfl|rfl:k=13∨k=14∨k=15:=by omega
 all_goals decide +kernel
end
section
theorem tiny_dl(k:Nat)(h1:13≤k)(h2:k≤15):dl (oN k)=1:=by
 obtain rfl|rfl|rfl:k=13∨k=14∨k=15:=by omega
 all_goals decide +kernel
theorem wrap_u32(x:Int)(h0:0≤x)(h1:x<4294967296):IntKind.u32.wrap x=x:=by
 simp only[IntKind.wrap,IntKind.signed,IntKind.bits];simp
 omega
theorem dl_small{n:Nat}(h0:0<n)(h1:n<4294967296):dl n=1:=by
 have a:=(dl_le n 1).2 (by rw[show pq 1=4294967296 by decide +kernel];exact h1)
 have b:¬dl n≤0:=fun h=>by have:=(dl_le n 0).1 h;rw[show pq 0=1 by decide +kernel]at this;omega
 omega
theorem bslU_is(n:Nat)(p:Array (Nat×Value)):Instr.buildSlice 28 n p=bslS 28 n p:=rfl
theorem buildU'(x:Nat)(w:World):(bslS 28 1 #[(0,.int .u32 (x:Int))]).run prog w=.ok (.slice (some ⟨w.heap.size,0,none⟩) 1 1) (w.alloc (.cells #[.int .u32 (x:Int)] 61)):=by
 kernel_rfl
theorem buildU(x:Nat)(hx:x<4294967296)(w:World):(bslS 28 1 #[(0,.int .u32 (x:Int))]).run prog w=.ok (.slice (some ⟨w.heap.size,0,none⟩) 1 1) (w.alloc (.cells (nd 1 x) 61)):=by
 rw[buildU' x w,nd_one x hx]
end
end Go.Proofs.YtghidgcekieljaaGreat