import Derived.Laws.MakeOwn
import Derived.Deep.AppendSrc
import Derived.OwnWalk
import Derived.Test.YtghidgcekieljaaGreatXAMixG
namespace Go.Proofs.YtghidgcekieljaaGreat
open Go.RowKit Go.Proofs.Tryz
set_option maxRecDepth 100000
set_option maxHeartbeats 8000000
section
def fr(m:Nat)(f:Nat→Value):Array Value:=((List.range m).map f).toArray
theorem fr_size(m:Nat)(f:Nat→Value):(fr m f).size=m:=by simp[fr]
theorem fr_get(m:Nat)(f:Nat→Value)(i:Nat)(h:i<m):(fr m f)[i]? = some (f i):=by simp[fr,h]
structure Rx(w:World)(g n cap:Nat)(f:Nat→Value):Prop where
 lt:g<w.heap.size
 le:n≤cap
 cell:∀i,i<n→w.cell? ⟨g,i,none⟩=some (f i)
 room:∀i,i<cap→(w.cell? ⟨g,i,none⟩).isSome=true∧w.frozen? ⟨g,i,none⟩=false
theorem Rx.gr{w w':World}{g n cap:Nat}{f:Nat→Value}(h:Rx w g n cap f)(k:Gr w w'):Rx w' g n cap f:=by
 obtain⟨k,rfl⟩:=k;exact⟨by have:=h.lt;rw[gro_size];omega,h.le,fun i hi=>(cell_gro w k g i h.lt).trans (h.cell i hi),fun i hi=>by rw[cell_gro w k g i h.lt,frozen_gro w k g i h.lt];exact h.room i hi⟩
theorem cell_new(w:World)(c:Array Value)(t:TypeId)(k:Nat):(w.alloc (.cells c t)).cell? ⟨w.heap.size,k,none⟩=c[k]? := by rw[cell_blk,blk_alloc_at _ _ _ _ _ rfl]
theorem fz_new(w:World)(c:Array Value)(t:TypeId)(k:Nat):(w.alloc (.cells c t)).frozen? ⟨w.heap.size,k,none⟩=false:=by
 unfold World.frozen?;rw[heap_alloc_new w (.cells c t)];simp
end
end Go.Proofs.YtghidgcekieljaaGreat